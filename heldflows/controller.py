"""The controller (points 700 to 709)."""

from heldflows.buckets import Bucket, EMPTY, SETTLED
from heldflows.limits import BUCKETS
from heldflows.members import Members
from heldflows.messages import is_message
from heldflows.reports import directory_of

PLAN = 8
GAP = 4


class Controller:
    """The controller, which decides which agent creates the flows of which bucket, and lets agents push flows.

    The numbers of held flows stand by the agents; they are those of the known births. The pushes that are under way
    stand by their orders, in the order in which they were made.
    """

    def __init__(self, muxes):
        self._muxes = muxes
        self._members = Members()
        self._buckets = [Bucket(number) for number in range(BUCKETS)]
        self._numbers = {}
        self._pushes = {}
        self._orders = 0
        self._ticks = 0

    def receive(self, message):
        """Takes any value; returns the list of what is sent, pairs of an address and a message."""
        if not is_message(("controller",), message):
            return []
        birth = message[1]
        if message[0] == "born":
            return self._take_born(birth)
        if not self._members.is_alive(birth):
            return []
        match message:
            case ("report", _, bucket, version, rows):
                return self._take_report(birth, bucket, version, rows)
            case ("owns", _, bucket, version):
                return self._take_owns(birth, bucket, version)
            case ("pushed", _, order):
                return self._take_pushed(birth, order)
            case _:
                return self._take_held(birth, message[2])

    def tick(self):
        """Returns the list of what is sent at a tick, pairs of an address and a message."""
        self._ticks += 1
        if self._ticks % PLAN == 0:
            self._plan()
        sent = []
        for bucket in self._buckets:
            sent.extend(bucket.due())
        for order, giver, count, receiver in self.pushes():
            sent.append((("agent", giver[0]), ("push", giver, order, count, receiver)))
        return sent + self._tables()

    def wish(self, agent, word):
        """Sets the wish for an agent; raises BadCall if the agent or the word is none."""
        self._members.wish(agent, word)

    def births(self):
        """Returns the tuple of the births that are alive, in ascending order."""
        return self._members.births()

    def phase(self, bucket):
        """Returns the word of the phase of a bucket."""
        return self._buckets[bucket].phase()

    def version(self, bucket):
        """Returns the greatest version of a bucket."""
        return self._buckets[bucket].version()

    def table(self):
        """Returns the tuple of the last settled rows, in ascending order."""
        rows = [bucket.row() for bucket in self._buckets]
        return tuple([row for row in rows if row is not None])

    def pushes(self):
        """Returns the list of the pushes that are under way, in ascending order of their orders."""
        return list(self._pushes.values())

    def _take_born(self, birth):
        told = self._members.born(birth)
        if told in ("first", "later"):
            self._forget_former(birth[0])
        if told == "later" or self.phase(0) == EMPTY:
            for bucket in self._buckets:
                bucket.recover(self.births())
        if told == "dead":
            return []
        return [(("agent", birth[0]), ("births", self.births()))]

    def _forget_former(self, agent):
        self._numbers.pop(agent, None)
        left = [push for push in self.pushes() if agent not in (push[1][0], push[3][0])]
        self._pushes = {push[0]: push for push in left}

    def _take_report(self, birth, number, version, rows):
        bucket = self._buckets[number]
        bucket.report(birth, version, rows)
        reports = bucket.reports()
        if reports is not None:
            receiver = self._least_loaded(self._members.candidates())
            bucket.grant(self._members.birth_of(receiver), directory_of(reports, self.births()))
        return []

    def _take_owns(self, birth, number, version):
        self._buckets[number].own(birth, version)
        return [(("agent", birth[0]), ("known", birth, number, version))]

    def _take_pushed(self, birth, order):
        if order in self._pushes and self._pushes[order][1] == birth:
            del self._pushes[order]
        return []

    def _take_held(self, birth, number):
        self._numbers[birth[0]] = number
        return []

    def _tables(self):
        rows = self.table()
        if len(rows) == 0:
            return []
        receivers = [("mux", mux) for mux in range(self._muxes)]
        receivers.extend([("agent", agent) for agent, _ in self.births()])
        return [(receiver, ("table", rows)) for receiver in receivers]

    def _load(self, agent):
        birth = self._members.birth_of(agent)
        return len([bucket for bucket in self._buckets if bucket.taker() == birth])

    def _least_loaded(self, agents):
        return min(agents, key=lambda agent: (self._load(agent), agent))

    def _settled_with(self, agent):
        """Returns the list of the buckets that are settled with the birth of an agent, in ascending order."""
        birth = self._members.birth_of(agent)
        return [bucket for bucket in self._buckets if bucket.phase() == SETTLED and bucket.taker() == birth]

    def _give(self, bucket, agent):
        bucket.give(self._members.birth_of(agent))

    def _plan(self):
        serving = self._members.serving()
        if len(serving) == 0:
            return
        drained = [agent for agent, _ in self.births() if agent not in serving]
        self._give_drained(drained, serving)
        self._give_spread(serving)
        self._push_drained(drained, serving)
        self._push_spread(serving)

    def _give_drained(self, drained, serving):
        for bucket in self._buckets:
            if bucket.phase() == SETTLED and bucket.taker()[0] in drained:
                self._give(bucket, self._least_loaded(serving))

    def _give_spread(self, serving):
        while True:
            givers = [agent for agent in serving if len(self._settled_with(agent)) > 0]
            if len(givers) == 0:
                return
            giver = min(givers, key=lambda agent: (-self._load(agent), agent))
            receiver = self._least_loaded(serving)
            if self._load(giver) - self._load(receiver) < 2:
                return
            self._give(self._settled_with(giver)[0], receiver)

    def _number(self, agent):
        return self._numbers.get(agent, 0)

    def _free(self, agents):
        """Returns the list of the agents from which and to which no push is under way."""
        pushes = self.pushes()
        busy = [giver for _, giver, _, _ in pushes] + [receiver for _, _, _, receiver in pushes]
        return [agent for agent in agents if self._members.birth_of(agent) not in busy]

    def _push(self, giver, count, receiver):
        self._orders += 1
        push = (self._orders, self._members.birth_of(giver), count, self._members.birth_of(receiver))
        self._pushes[self._orders] = push

    def _push_drained(self, drained, serving):
        for giver in self._free(drained):
            receivers = self._free(serving)
            if self._number(giver) > 0 and len(receivers) > 0:
                self._push(giver, self._number(giver), self._least_held(receivers))

    def _push_spread(self, serving):
        free = self._free(serving)
        if len(free) == 0:
            return
        giver = min(free, key=lambda agent: (-self._number(agent), agent))
        receiver = self._least_held(free)
        difference = self._number(giver) - self._number(receiver)
        if difference >= GAP:
            self._push(giver, difference // 2, receiver)

    def _least_held(self, agents):
        return min(agents, key=lambda agent: (self._number(agent), agent))
