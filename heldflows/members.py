"""The agents as the controller knows them (points 701 and 702)."""

from heldflows.errors import BadCall
from heldflows.forms import is_integer
from heldflows.limits import MOST_AGENTS

SERVE = "serve"
DRAIN = "drain"


class Members:
    """The known birth of each agent, and the wishes."""

    def __init__(self):
        self._numbers = {}
        self._drained = {}

    def born(self, birth):
        """Takes a birth; returns `first`, `later`, `known` or `dead`."""
        agent, number = birth
        before = self._numbers.get(agent)
        if before is not None and number < before:
            return "dead"
        if number == before:
            return "known"
        self._numbers[agent] = number
        return "first" if before is None else "later"

    def births(self):
        """Returns the tuple of the births that are alive, in ascending order."""
        return tuple(sorted(self._numbers.items()))

    def birth_of(self, agent):
        """Returns the known birth of an agent that has one."""
        return agent, self._numbers[agent]

    def is_alive(self, birth):
        """Tells whether a birth is the known one of its agent."""
        agent, number = birth
        return self._numbers.get(agent) == number

    def wish(self, agent, word):
        """Sets the wish for an agent; raises BadCall if the agent or the word is none."""
        if not is_integer(agent, 0, MOST_AGENTS - 1) or not isinstance(word, str) or word not in (SERVE, DRAIN):
            raise BadCall()
        self._drained[agent] = word == DRAIN

    def serving(self):
        """Returns the list of the agents that serve, in ascending order."""
        return [agent for agent in sorted(self._numbers) if not self._drained.get(agent, False)]

    def candidates(self):
        """Returns the list of the agents that may get buckets, in ascending order."""
        serving = self.serving()
        return serving if len(serving) > 0 else sorted(self._numbers)
