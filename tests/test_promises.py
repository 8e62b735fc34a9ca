"""Points 4 to 7 and 911: worlds under events of all kinds, and timely worlds."""

import random
import unittest

from answers import answers_to
from heldflows.judging import judge
from heldflows.schedules import parse, run
from heldflows.worlds import World

MOST_TICKS = 70
# More letters than these are lost, so that a run does not grow without end.
MOST_LETTERS = 300
# The most that point 7 allows for one client and for one flow.
MOST_FLOWS = 3
MOST_WRITTEN = 60


class Draw:
    """Draws the events of a world, and tells them to it."""

    def __init__(self, seed):
        self.choices = random.Random(seed)
        draw = self.choices.choice
        self.size = self.choices.randint(1, 6), self.choices.randint(1, 6), self.choices.randint(1, 3)
        self.world = World(*self.size)
        self.events = []
        self.pictures = [self.world.picture()]
        self.opened = [0] * self.size[0]
        self.written = {}
        self.weights = {
            "open": draw([0.3, 2]), "write": 2, "close": draw([0.1, 0.6]), "client": 3, "agent": 5, "controller": 3,
            "deliver": draw([10, 30, 80]), "lose": draw([0, 1, 6]), "double": draw([0, 1, 4]), "spoil": draw([0, 1, 6]),
            "stop": draw([0, 0.1, 0.6]), "start": draw([0.2, 1]), "forget": 0.1, "route": 0.3, "wish": draw([0, 0.1, 0.6]),
            "round": draw([0, 1, 6])}
        # The share of the letters that are delivered in the order in which they were sent.
        self.first = draw([0, 0.5, 0.9, 1])

    def do(self, *event):
        self.events.append(event)
        self.world.do(event)
        self.pictures.append(self.world.picture())

    def play(self, steps):
        words = list(self.weights)
        for word in self.choices.choices(words, list(self.weights.values()), k=steps):
            event = self.event(word)
            if event is not None:
                self.do(*event)
            while self.world.count() > MOST_LETTERS:
                self.do("lose", self.choices.randrange(self.world.count()))

    def warm_up(self):
        """Lets all clients open flows, and all agents get buckets, so that more than a beginning is seen."""
        for client in range(self.size[0]):
            for _ in range(self.choices.randint(1, MOST_FLOWS)):
                self.do(*self.event_of_open(client) or ("round",))
        for _ in range(self.choices.randrange(14)):
            self.do("round")

    def place(self):
        if self.choices.random() < self.first:
            return 0
        return self.choices.randrange(10000)

    def event(self, word):
        client, agent, mux = [self.choices.randrange(many) for many in self.size]
        number = self.choices.randint(1, MOST_FLOWS)
        if word == "open":
            return self.event_of_open(client)
        if word == "write":
            return self.event_of_write(client, number)
        if word == "close":
            return "close", client, number
        if word == "client":
            return "client", client
        if word in ("agent", "stop", "start"):
            return word, agent
        if word in ("deliver", "lose", "double"):
            return word, self.place()
        if word == "spoil":
            return "spoil", self.place(), self.choices.randrange(10000), self.choices.randint(1, 255)
        if word == "forget":
            return "forget", mux
        if word == "route":
            return "route", client, mux
        if word == "wish":
            return "wish", agent, self.choices.choice(["serve", "drain"])
        return (word,)

    def event_of_open(self, client):
        if self.opened[client] == MOST_FLOWS:
            return None
        self.opened[client] += 1
        return "open", client

    def event_of_write(self, client, number):
        data = tuple(self.choices.randrange(256) for _ in range(self.choices.randint(1, 16)))
        known = self.written.get((client, number), 0)
        if number > self.opened[client] or known + len(data) > MOST_WRITTEN:
            return None
        self.written[(client, number)] = known + len(data)
        return "write", client, number, data

    def start_all(self):
        for agent in range(self.size[1]):
            self.do("start", agent)

    def calm_down(self, tell):
        """Lets the world be timely until nothing is missing, at most 70 ticks; returns what is still missing."""
        self.start_all()
        for _ in range(MOST_TICKS):
            if whatever_is_missing(self.world, self.size) is None:
                return None
            tell(self)
        return whatever_is_missing(self.world, self.size)


def line_of(event):
    """Returns the line of a schedule that tells an event."""
    return " ".join(",".join(map(str, part)) if isinstance(part, tuple) else str(part) for part in event)


def tell_round(draw):
    draw.do("round")


class SlowTicks:
    """Tells ticks of a timely world in which each letter is received as late as it may be.

    Letters that are sent between two ticks are received right before the tick after the next one. The ticks come in a
    drawn order.
    """

    def __init__(self):
        self.old = 0

    def __call__(self, draw):
        for _ in range(self.old):
            draw.do("deliver", 0)
        self.old = draw.world.count()
        ticks = [("client", client) for client in range(draw.size[0])] + [("controller",)]
        ticks += [("agent", agent) for agent in range(draw.size[1])]
        draw.choices.shuffle(ticks)
        for tick in ticks:
            draw.do(*tick)


def whatever_is_missing(world, size):
    """Returns what is missing of the moment of point 7, as a tuple that begins with a word, or None."""
    _, clients, agents = world.picture()
    for bucket in range(16):
        creators = [birth for birth, _, _, buckets in agents if bucket in buckets]
        if len(creators) != 1:
            return "creator", bucket, creators
        for mux in range(size[2]):
            if [row[2] for row in world.rows(mux) if row[0] == bucket] != creators:
                return "mux", bucket
    eaten = {row[:2]: row[3] for _, held, _, _ in agents for row in held}
    for client, flows in enumerate(clients):
        for number, life, written, closed, read, state in flows:
            name = (client, number)
            is_done = state == "gone" or (state == "ended" and closed == 1)
            if state == "open" and closed == 0:
                is_done = eaten.get((name, life)) == written and read == answers_to(name, written)
            if not is_done:
                return "flow", name, state
    return None


def wrongly_told(pictures):
    """Returns the flows that are gone though no birth had stopped that held their lives, or to which they were handed.

    Pictures do not tell to which birth a life that is frozen is handed; so any birth may be the one that had stopped.
    """
    births = {}
    moved = set()
    seen = set()
    told = {}
    for _, clients, agents in pictures:
        running = {birth for birth, _, _, _ in agents}
        seen |= running
        for birth, held, frozen, _ in agents:
            moved |= {row[:2] for row in frozen}
            for row in held + frozen:
                births.setdefault(row[:2], set()).add(birth)
        for client, flows in enumerate(clients):
            for number, life, _, _, _, state in flows:
                if state == "gone" and (client, number) not in told:
                    name = ((client, number), life)
                    told[(client, number)] = (seen if name in moved else births[name]) <= running
    return [flow for flow, is_wrong in told.items() if is_wrong]


class DrawnTest(unittest.TestCase):
    def keeps(self, draw):
        self.assertEqual(judge(draw.pictures), [])
        self.assertEqual(wrongly_told(draw.pictures), [])

    def test_whatever_happens_the_judge_finds_no_fault(self):
        states = []
        frozen = 0
        for seed in range(80):
            with self.subTest(seed=seed):
                draw = Draw(seed)
                if draw.choices.random() < 0.7:
                    draw.warm_up()
                draw.play(draw.choices.choice([60, 200, 400]))
                self.assertIsNone(draw.calm_down(tell_round))
                draw.play(100)
                self.assertIsNone(draw.calm_down(tell_round))
                self.keeps(draw)
                states += [row[5] for flows in draw.pictures[-1][1] for row in flows]
                frozen += sum(len(row[2]) for found in draw.pictures for row in found[2])
        # Otherwise the runs would show too little.
        self.assertGreater(min(states.count(state) for state in ("open", "ended", "gone")), 50)
        self.assertGreater(frozen, 50)

    def test_letters_that_are_as_late_as_they_may_be(self):
        for seed in range(30):
            with self.subTest(seed=seed):
                draw = Draw(5000 + seed)
                draw.warm_up()
                draw.play(200)
                # What is on the way before the world is timely may be lost.
                for _ in range(draw.world.count()):
                    draw.do(draw.choices.choice(["lose", "deliver"]), draw.choices.randrange(10000))
                self.assertIsNone(draw.calm_down(SlowTicks()))
                self.keeps(draw)

    def test_schedules_tell_the_same(self):
        for seed in range(10):
            draw = Draw(7000 + seed)
            draw.warm_up()
            draw.play(200)
            text = "world {} {} {}\n".format(*draw.size) + "\n".join(line_of(event) for event in draw.events)
            self.assertEqual(parse(text), (draw.size, tuple(draw.events)))
            self.assertEqual(run(text), draw.pictures)

    def test_no_flow_is_lost_as_long_as_no_agent_stops(self):
        for seed in range(25):
            with self.subTest(seed=seed):
                draw = Draw(9000 + seed)
                draw.weights["stop"] = 0
                draw.warm_up()
                draw.play(300)
                self.assertIsNone(draw.calm_down(tell_round))
                for flows in draw.pictures[-1][1]:
                    self.assertEqual([row[5] for row in flows], ["ended" if row[3] else "open" for row in flows])


class TimelyTest(unittest.TestCase):
    def test_new_worlds(self):
        for size in ((1, 1, 1), (6, 6, 3), (6, 1, 2), (1, 6, 3), (3, 2, 1)):
            for tell in (tell_round, SlowTicks()):
                for closed in (False, True):
                    draw = Draw(1)
                    draw.size = size
                    draw.world = World(*size)
                    for client in range(size[0]):
                        for number in range(1, MOST_FLOWS + 1):
                            draw.do("open", client)
                            draw.do("write", client, number, tuple(range(40, 40 + MOST_WRITTEN)))
                            if closed:
                                draw.do("close", client, number)
                    self.assertIsNone(draw.calm_down(tell))

    def test_all_agents_but_one_drain(self):
        for kept in range(3):
            text = "world 6 3 2\n" + "".join(f"open {client}\nwrite {client} 1 1,2,3\n" for client in range(6)) + "round 24\n"
            text += "".join(f"wish {agent} drain\n" for agent in range(3) if agent != kept) + "round 60\n"
            text += "".join(f"close {client} 1\n" for client in range(6)) + "round 30\n"
            pictures = run(text)
            self.assertEqual(judge(pictures), [])
            agents = pictures[-31 - 6][2]
            self.assertEqual([len(row[3]) for row in agents], [16 if agent == kept else 0 for agent in range(3)])
            self.assertEqual([len(row[1]) for row in agents], [6 if agent == kept else 0 for agent in range(3)])
            self.assertEqual([row[5] for flows in pictures[-1][1] for row in flows], ["ended"] * 6)
            self.assertEqual([row[1:3] for row in pictures[-1][2]], [((), ())] * 3)

    def test_agents_that_stop_one_after_the_other(self):
        text = "world 4 4 2\n" + "open 0\nopen 1\nopen 2\nopen 3\nround 20\n"
        for agent in range(4):
            text += f"stop {agent}\nround 5\nstart {agent}\nround 40\n"
        pictures = run(text)
        self.assertEqual(judge(pictures), [])
        self.assertEqual(wrongly_told(pictures), [])
        self.assertEqual({row[5] for flows in pictures[-1][1] for row in flows}, {"gone"})
        self.assertEqual([row[0] for row in pictures[-1][2]], [(agent, 2) for agent in range(4)])
        self.assertEqual([len(row[3]) for row in pictures[-1][2]], [4] * 4)


if __name__ == "__main__":
    unittest.main()
