"""Points 801 and 803, as far as they concern letters: the net."""

import random
import unittest

from heldflows.errors import BadBytes
from heldflows.nets import Net
from heldflows.wire import read, write

LETTERS = [
    (("mux", 1), ("open", (2, 300))),
    (("agent", 0), ("wrap", 10, 8, ("open", (2, 300)))),
    (("controller",), ("held", (0, 1), 7)),
    (("client", 2), ("gone", (2, 300), (0, 1, 7))),
]


def net_with(letters=tuple(LETTERS)):
    net = Net()
    for address, message in letters:
        net.send(address, message)
    return net


def shown(net):
    return [net.letter(place) for place in range(net.count())]


def sent(letters):
    """Returns what a net shows of letters that are not spoilt."""
    return [(address, write(message)) for address, message in letters]


class SendTest(unittest.TestCase):
    def test_no_letters(self):
        self.assertEqual(Net().count(), 0)

    def test_letters_stand_in_the_order_in_which_they_were_sent(self):
        net = Net()
        for many, (address, message) in enumerate(LETTERS + LETTERS[::-1]):
            self.assertEqual(net.count(), many)
            self.assertIsNone(net.send(address, message))
        self.assertEqual(net.count(), 8)
        self.assertEqual(shown(net), sent(LETTERS + LETTERS[::-1]))

    def test_any_message_that_can_be_written(self):
        for message in (None, 0, "word", (), ((None, 4294967295), "a")):
            net = net_with([(("controller",), message)])
            self.assertEqual(net.letter(0), (("controller",), write(message)))
            self.assertEqual(net.take(0), (("controller",), message))

    def test_nets_share_nothing(self):
        first, second = net_with(), Net()
        self.assertEqual(second.count(), 0)
        second.send(*LETTERS[0])
        first.take(0)
        self.assertEqual((first.count(), second.count()), (3, 1))

    def test_kinds_of_values(self):
        net = net_with()
        self.assertIs(type(net.letter(0)), tuple)
        self.assertIs(type(net.letter(0)[1]), tuple)
        self.assertIs(type(net.take(0)), tuple)


class TakeTest(unittest.TestCase):
    def test_any_place(self):
        for place in range(4):
            net = net_with()
            self.assertEqual(net.take(place), LETTERS[place])
            self.assertEqual(shown(net), sent(LETTERS[:place] + LETTERS[place + 1:]))

    def test_until_there_are_no_more(self):
        net = net_with()
        for place, letter in ((2, LETTERS[2]), (0, LETTERS[0]), (1, LETTERS[3]), (0, LETTERS[1])):
            self.assertEqual(net.take(place), letter)
        self.assertEqual(net.count(), 0)
        net.send(*LETTERS[0])
        self.assertEqual(net.take(0), LETTERS[0])


class DoubleTest(unittest.TestCase):
    def test_it_stands_behind_all_others(self):
        for place in range(4):
            net = net_with()
            self.assertIsNone(net.double(place))
            self.assertEqual(shown(net), sent(LETTERS + [LETTERS[place]]))
            net.double(4)
            self.assertEqual(shown(net), sent(LETTERS + [LETTERS[place]] * 2))
            for left in range(6, 0, -1):
                self.assertEqual(net.count(), left)
                net.take(0)

    def test_both_are_taken(self):
        net = net_with(LETTERS[:1])
        net.double(0)
        self.assertEqual([net.take(0), net.take(0)], LETTERS[:1] * 2)


class SpoilTest(unittest.TestCase):
    def test_each_byte(self):
        address, message = LETTERS[1]
        row = write(message)
        for at in range(len(row)):
            for by in (1, 2, 100, 255):
                for more in (0, len(row), 7 * len(row)):
                    net = net_with(LETTERS[:3])
                    self.assertIsNone(net.spoil(1, at + more, by))
                    spoilt = row[:at] + ((row[at] + by) % 256,) + row[at + 1:]
                    expected = sent(LETTERS[:3])
                    expected[1] = (address, spoilt)
                    self.assertEqual(shown(net), expected)
                    with self.assertRaises(BadBytes):
                        read(spoilt)
                    self.assertIsNone(net.take(1))
                    self.assertEqual(shown(net), sent([LETTERS[0], LETTERS[2]]))

    def test_the_sum_may_be_greater_than_255(self):
        net = net_with([(("controller",), ("held", (0, 1), 255))])
        row = net.letter(0)[1]
        at = row.index(255)
        for by, byte in ((1, 0), (2, 1), (255, 254)):
            net = net_with([(("controller",), ("held", (0, 1), 255))])
            net.spoil(0, at, by)
            self.assertEqual(net.letter(0)[1][at], byte)

    def test_it_is_not_changed_again(self):
        for at in range(30):
            net = net_with()
            net.spoil(2, at, 200)
            before = shown(net)
            for again, by in ((at, 56), (at, 1), (at + 1, 7), (0, 255)):
                net.spoil(2, again, by)
                self.assertEqual(shown(net), before)
            self.assertIsNone(net.take(2))

    def test_a_spoilt_letter_is_doubled(self):
        net = net_with()
        net.spoil(1, 3, 9)
        net.double(1)
        self.assertEqual(net.letter(4), net.letter(1))
        before = shown(net)
        net.spoil(4, 3, 247)
        self.assertEqual(shown(net), before)
        self.assertIsNone(net.take(4))
        self.assertIsNone(net.take(1))

    def test_a_doubled_letter_is_spoilt_alone(self):
        for place, other in ((1, 4), (4, 1)):
            net = net_with()
            net.double(1)
            net.spoil(place, 3, 9)
            self.assertEqual(net.letter(other), sent(LETTERS)[1])
            self.assertNotEqual(net.letter(place), net.letter(other))
            # The other one is not spoilt, so it can be changed, too.
            net.spoil(other, 3, 9)
            self.assertEqual(net.letter(place), net.letter(other))

    def test_the_place_of_a_spoilt_letter_moves(self):
        net = net_with()
        net.spoil(2, 3, 9)
        net.take(0)
        before = shown(net)
        net.spoil(1, 3, 9)
        self.assertEqual(shown(net), before)
        net.spoil(2, 3, 9)
        self.assertNotEqual(shown(net), before)


class DrawnTest(unittest.TestCase):
    def test_drawn_calls(self):
        for seed in range(40):
            choices = random.Random(seed)
            net = Net()
            # A letter of the model is a list: the address, the message, and the changed byte, if it is spoilt.
            model = []
            for _ in range(60):
                call = choices.choice(["send", "send", "take", "double", "spoil"])
                place = choices.randrange(max(1, len(model)))
                if call == "send":
                    address, message = choices.choice(LETTERS)
                    net.send(address, message)
                    model.append([address, write(message), None])
                elif model and call == "take":
                    address, row, change = model.pop(place)
                    self.assertEqual(net.take(place), None if change else (address, read(row)))
                elif model and call == "double":
                    net.double(place)
                    model.append(list(model[place]))
                elif model:
                    at, by = choices.randrange(100), choices.randint(1, 255)
                    net.spoil(place, at, by)
                    model[place][2] = model[place][2] or (at, by)
                expected = []
                for address, row, change in model:
                    row = list(row)
                    if change:
                        row[change[0] % len(row)] = (row[change[0] % len(row)] + change[1]) % 256
                    expected.append((address, tuple(row)))
                self.assertEqual(shown(net), expected)


class PlaceTest(unittest.TestCase):
    def test_names_are_defined_in_their_file(self):
        self.assertEqual(Net.__module__, "heldflows.nets")
        for name in ("send", "count", "letter", "take", "double", "spoil"):
            self.assertIn(name, vars(Net))


if __name__ == "__main__":
    unittest.main()
