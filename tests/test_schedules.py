"""Points 806 to 808: schedules."""

import unittest

from heldflows.errors import BadSchedule
from heldflows.schedules import MOST_WRITE, parse, run
from heldflows.worlds import World
from strange import STRANGE

SIZE = (3, 4, 2)
WORLD = "world 3 4 2\n"

# Each form of a line, with numbers at their bounds, for a world of 3 clients, 4 agents and 2 muxes.
FORMS = [
    ("open 0", ("open", 0)), ("open 2", ("open", 2)),
    ("close 0 1", ("close", 0, 1)), ("close 2 9999", ("close", 2, 9999)),
    ("write 0 1 0", ("write", 0, 1, (0,))), ("write 2 9999 255", ("write", 2, 9999, (255,))),
    ("write 1 10 7,8,0,255", ("write", 1, 10, (7, 8, 0, 255))),
    ("write 1 10 " + ",".join(["200"] * 16), ("write", 1, 10, (200,) * 16)),
    ("client 0", ("client", 0)), ("client 2", ("client", 2)),
    ("agent 0", ("agent", 0)), ("agent 3", ("agent", 3)),
    ("controller", ("controller",)),
    ("deliver 0", ("deliver", 0)), ("deliver 9999", ("deliver", 9999)),
    ("lose 0", ("lose", 0)), ("lose 9999", ("lose", 9999)),
    ("double 0", ("double", 0)), ("double 9999", ("double", 9999)),
    ("spoil 0 0 1", ("spoil", 0, 0, 1)), ("spoil 9999 9999 255", ("spoil", 9999, 9999, 255)),
    ("stop 0", ("stop", 0)), ("stop 3", ("stop", 3)),
    ("start 0", ("start", 0)), ("start 3", ("start", 3)),
    ("forget 0", ("forget", 0)), ("forget 1", ("forget", 1)),
    ("route 0 0", ("route", 0, 0)), ("route 2 1", ("route", 2, 1)),
    ("wish 0 serve", ("wish", 0, "serve")), ("wish 3 drain", ("wish", 3, "drain")),
    ("round", ("round",)),
]

BAD = [
    "world 3 4 2", "world", "world 1 1 1",
    "open", "open 3", "open 0 0", "open -1", "open x", "opens 0", "Open 0", "OPEN 0",
    "close 0", "close 0 0", "close 3 1", "close 0 10000", "close 0 1 1", "close 0 -1",
    "write 0 1", "write 0 0 7", "write 3 1 7", "write 0 1 256", "write 0 1 7,", "write 0 1 ,7", "write 0 1 7,,8",
    "write 0 1 7, 8", "write 0 1 7 8", "write 0 1 " + ",".join(["1"] * 17), "write 0 1 -7", "write 0 1 07",
    "write 0 1 7;8", "write 0 1 7.8", "write 0 1 a", "write 0 10000 7", "write 0 1 0,256", "write 0 1 ()",
    "client 3", "client", "client 0 0", "agent 4", "agent", "agent 0 1", "controller 0", "controllers",
    "deliver", "deliver 10000", "deliver -1", "deliver 0 0", "lose", "lose 10000", "lose x", "double", "double 10000",
    "spoil 0 0", "spoil 0 0 0", "spoil 0 0 256", "spoil 10000 0 1", "spoil 0 10000 1", "spoil 0 0 1 1", "spoil 0 0 -1",
    "stop 4", "stop", "start 4", "start", "forget 2", "forget", "route 0 2", "route 3 0", "route 0", "route 0 0 0",
    "wish 0", "wish 4 serve", "wish 0 stop", "wish 0 Serve", "wish 0 serve serve", "wish serve 0", "wish 0 ",
    "round 0", "round 10000", "round -1", "round 1 1", "round x", "round 01", "rounds", "round 00", "round one",
    "deliver", "0", "x", "bytes", "deliver deliver", "number 0",
]


class SchedulesCase(unittest.TestCase):
    def is_bad(self, text, line):
        for call in (parse, run):
            with self.assertRaises(BadSchedule) as caught:
                call(text)
            self.assertEqual(caught.exception.line, line, text)


class FormsTest(SchedulesCase):
    def test_most_write(self):
        self.assertEqual(MOST_WRITE, 16)

    def test_each_form(self):
        for line, event in FORMS:
            self.assertEqual(parse(WORLD + line), (SIZE, (event,)), line)
        whole = WORLD + "\n".join(line for line, _ in FORMS)
        self.assertEqual(parse(whole), (SIZE, tuple(event for _, event in FORMS)))

    def test_rounds(self):
        for many in (1, 2, 10, 999, 9999):
            self.assertEqual(parse(WORLD + f"round {many}\nopen 1"), (SIZE, (("round",),) * many + (("open", 1),)))

    def test_the_line_world(self):
        for clients in range(1, 7):
            for agents in range(1, 7):
                for muxes in range(1, 4):
                    self.assertEqual(parse(f"world {clients} {agents} {muxes}"), ((clients, agents, muxes), ()))

    def test_numbers_depend_on_the_size_of_the_world(self):
        for clients, agents, muxes in ((1, 1, 1), (6, 6, 3), (2, 5, 3)):
            world = f"world {clients} {agents} {muxes}\n"
            for line, most in (("open {}", clients), ("close {} 1", clients), ("write {} 1 7", clients),
                               ("client {}", clients), ("route {} 0", clients), ("agent {}", agents), ("stop {}", agents),
                               ("start {}", agents), ("wish {} serve", agents), ("forget {}", muxes),
                               ("route 0 {}", muxes)):
                for number in range(8):
                    text = world + line.format(number)
                    if number < most:
                        self.assertEqual(len(parse(text)[1]), 1)
                    else:
                        self.is_bad(text, 2)

    def test_kinds_of_values(self):
        found = parse(WORLD + "write 0 1 7\nround 2")
        for value in (found, found[0], found[1], found[1][0], found[1][0][3], found[1][1]):
            self.assertIs(type(value), tuple)

    def test_the_example_of_the_document(self):
        self.assertEqual(parse("world 1 2 1\n# first\nopen 0\nwrite 0 1 7,8\nspoil 3 20 255"), (
            (1, 2, 1), (("open", 0), ("write", 0, 1, (7, 8)), ("spoil", 3, 20, 255))))
        self.is_bad("world 1 2 1\nopen 1", 2)


class SkippedTest(SchedulesCase):
    def test_empty_lines_and_comments(self):
        for skipped in ("", "#", "# open 0", "#open 0", "##", "# \u00e9\t"):
            text = f"{skipped}\n{skipped}\nworld 3 4 2\n{skipped}\nopen 1\n{skipped}\n{skipped}\nopen 2\n{skipped}"
            self.assertEqual(parse(text), (SIZE, (("open", 1), ("open", 2))))
            self.is_bad(text + "\nopen 3", 10)

    def test_lines_that_are_not_skipped(self):
        for line in (" ", "\t", " #", " # first", "\r", "open 0 # first", "open 0#", "\ufeff#"):
            self.is_bad(WORLD + line, 2)
            self.is_bad(WORLD + "open 1\n\n" + line + "\nopen 1", 4)

    def test_all_lines_are_skipped(self):
        for text, line in (("", 1), ("\n", 2), ("\n\n", 3), ("#", 1), ("#\n", 2), ("# first\n\n# second", 3),
                           ("# first\n\n# second\n", 4)):
            self.is_bad(text, line)

    def test_a_newline_at_the_end(self):
        self.assertEqual(parse(WORLD), (SIZE, ()))
        self.assertEqual(parse("world 3 4 2"), (SIZE, ()))
        self.assertEqual(parse(WORLD + "open 1\n"), (SIZE, (("open", 1),)))
        self.assertEqual(parse(WORLD + "open 1\n\n\n"), (SIZE, (("open", 1),)))


class BadTest(SchedulesCase):
    def test_bad_lines(self):
        for line in BAD:
            self.is_bad(WORLD + line, 2)
            self.is_bad(WORLD + "\n# first\nopen 0\n" + line + "\nopen 1\n" + line, 5)
            self.is_bad(WORLD + line + "\nopen 9", 2)

    def test_bad_numbers_everywhere(self):
        for line, _ in FORMS + [("round 3", None)]:
            parts = line.split(" ")
            for at in range(1, len(parts)):
                if parts[at].isdigit():
                    digits = parts[at]
                    for part in ("", "-" + digits, "+" + digits, "0" + digits, " " + digits, digits + " ", digits + ".0",
                                 digits + "e0", "0x" + digits, digits + "_0", digits + "\r", digits + "\t", "\u0663",
                                 "\uff11", "\u00b2", digits + ",", "1 0", "one", "None", "00", "10000", "99999999999999"):
                        self.is_bad(WORLD + " ".join(parts[:at] + [part] + parts[at + 1:]), 2)

    def test_bad_bytes_in_a_write(self):
        for piece in ("", "256", "-1", "+1", "01", "00", " 1", "1 ", "\u0663", "1_0", "x", "1000"):
            for at in range(3):
                pieces = ["5", "6"]
                pieces.insert(at, piece)
                self.is_bad(WORLD + "write 0 1 " + ",".join(pieces), 2)

    def test_spaces(self):
        for line, _ in FORMS:
            for text in (" " + line, line + " ", line + "\t", "\t" + line, line + "\r", line + "\x0b", line + "\u00a0"):
                self.is_bad(WORLD + text, 2)
            if " " in line:
                for space in ("  ", "\t", "", "\u00a0", " \t"):
                    self.is_bad(WORLD + line.replace(" ", space, 1), 2)

    def test_other_separators_of_lines(self):
        for separator in ("\r", "\x0b", "\x0c", "\x1e", "\u2028", "\u0085", ";", "\r\n"):
            self.is_bad(WORLD + "open 0" + separator + "open 1", 2)

    def test_bad_lines_world(self):
        for line in ("world", "world 1", "world 1 1", "world 1 1 1 1", "world 0 1 1", "world 1 0 1", "world 1 1 0",
                     "world 7 1 1", "world 1 7 1", "world 1 1 4", "world 01 1 1", "world 1 +1 1", "world 1 1 -1",
                     "world  1 1 1", " world 1 1 1", "world 1 1 1 ", "World 1 1 1", "worlds 1 1 1", "world 1 1 x",
                     "world 1,1,1", "world\t1 1 1", "world 1 1 \uff11", "world 1 1 1\r", "1 1 1", "world a b c",
                     "world 10000 1 1"):
            self.is_bad(line, 1)
            self.is_bad("# first\n\n" + line + "\nopen 0", 3)
            self.is_bad(line + "\nworld 1 1 1", 1)

    def test_lines_ahead_of_the_line_world(self):
        for line, _ in FORMS:
            self.is_bad(line, 1)
            self.is_bad("\n" + line + "\n" + WORLD, 2)

    def test_a_second_line_world(self):
        self.is_bad(WORLD + "open 0\n" + WORLD, 3)

    def test_values_that_are_no_strings(self):
        for value in STRANGE + [b"world 1 1 1", ["world 1 1 1"], ("world 1 1 1",)]:
            if not isinstance(value, str):
                self.is_bad(value, 0)
            else:
                self.is_bad(value, 1)


class RunTest(unittest.TestCase):
    def test_the_first_picture_is_that_of_the_new_world(self):
        for clients, agents, muxes in ((1, 1, 1), (6, 6, 3), (2, 3, 2)):
            found = run(f"# nothing\nworld {clients} {agents} {muxes}\n")
            self.assertEqual(found, [World(clients, agents, muxes).picture()])

    def test_a_picture_behind_each_event(self):
        lines = [
            "open 0", "controller", "write 0 1 1,2,3", "agent 0", "deliver 0", "deliver 0", "deliver 0", "round 12",
            "spoil 3 20 255", "double 2", "lose 0", "stop 0", "client 0", "route 0 1", "forget 0", "start 0",
            "wish 0 drain", "round 20", "close 0 1", "round 9", "round"]
        text = "world 1 2 2\n" + "\n".join(lines)
        (clients, agents, muxes), events = parse(text)
        world = World(clients, agents, muxes)
        expected = [world.picture()]
        for event in events:
            world.do(event)
            expected.append(world.picture())
        found = run(text)
        self.assertIs(type(found), list)
        self.assertEqual(found, expected)
        self.assertEqual([picture[0] for picture in found], list(range(len(events) + 1)))
        self.assertEqual(found[-1][1], (((1, (1, 1, 1), (1, 2, 3), 1, (17, 84, 160), "ended"),),))

    def test_runs_do_not_hinder_each_other(self):
        text = "world 2 2 1\nopen 0\nopen 1\nround 20"
        first = run(text)
        run("world 2 2 1\nstop 0\nround 20")
        self.assertEqual(run(text), first)


class PlaceTest(unittest.TestCase):
    def test_names_are_defined_in_their_file(self):
        for call in (parse, run):
            self.assertEqual(call.__module__, "heldflows.schedules")


if __name__ == "__main__":
    unittest.main()
