"""Points 300 and 301: the app at the other end of a flow."""

import random
import unittest

from heldflows import app
from heldflows.app import answered, first_state

ALL = tuple(range(256))


class FirstStateTest(unittest.TestCase):
    def test_first_states_that_are_put_down(self):
        states = {
            (1, 2): 64, (0, 1): 16, (0, 2): 27, (0, 22): 247, (0, 23): 2, (5, 1): 201, (5, 6): 0, (5, 7): 11,
            (0, 1000000): 197, (5, 1000000): 126, (2, 300): 51, (3, 8): 204,
        }
        for flow, state in states.items():
            self.assertEqual(first_state(flow), state, flow)

    def test_against_the_words_of_the_document(self):
        for client in range(6):
            for number in list(range(1, 600)) + [999999, 1000000]:
                total = 37 * client + 11 * number + 5
                self.assertEqual(first_state((client, number)), total - total // 256 * 256)


class AnsweredTest(unittest.TestCase):
    def test_the_example_of_the_interface(self):
        self.assertEqual(answered(64, (10, 255)), (119, (74, 74)))

    def test_no_bytes(self):
        for state in (0, 1, 64, 255):
            self.assertEqual(answered(state, ()), (state, ()))

    def test_one_byte(self):
        self.assertEqual(answered(0, (0,)), (1, (0,)))
        self.assertEqual(answered(0, (254,)), (255, (254,)))
        self.assertEqual(answered(0, (255,)), (0, (255,)))
        self.assertEqual(answered(1, (255,)), (5, (0,)))
        self.assertEqual(answered(255, (1,)), (253, (0,)))
        self.assertEqual(answered(255, (255,)), (251, (254,)))
        self.assertEqual(answered(51, (0,)), (0, (51,)))
        self.assertEqual(answered(50, (5,)), (0, (55,)))

    def test_each_state_and_byte(self):
        for state in range(256):
            for byte in range(256):
                behind, answers = answered(state, (byte,))
                self.assertEqual(answers, ((byte + state) & 255,))
                self.assertEqual(behind, (5 * state + byte + 1) & 255)

    def test_several_bytes(self):
        self.assertEqual(answered(16, (1, 2, 3)), (21, (17, 84, 160)))
        self.assertEqual(answered(0, (0, 0, 0, 0)), (156, (0, 1, 6, 31)))

    def test_in_one_piece_and_in_several(self):
        choices = random.Random(3)
        for _ in range(200):
            state = choices.randrange(256)
            data = tuple(choices.randrange(256) for _ in range(choices.randrange(30)))
            at = choices.randrange(len(data) + 1)
            middle, first = answered(state, data[:at])
            behind, second = answered(middle, data[at:])
            self.assertEqual(answered(state, data), (behind, first + second))
            answers = ()
            now = state
            for byte in data:
                now, answer = answered(now, (byte,))
                answers += answer
            self.assertEqual(answered(state, data), (now, answers))

    def test_kinds_of_values(self):
        found = answered(255, ALL)
        self.assertIs(type(found), tuple)
        self.assertIs(type(found[1]), tuple)
        self.assertEqual(len(found[1]), 256)
        for value in (found[0],) + found[1]:
            self.assertIs(type(value), int)
            self.assertIn(value, ALL)
        self.assertIs(type(first_state((5, 1000000))), int)


class PlaceTest(unittest.TestCase):
    def test_functions_are_defined_in_their_file(self):
        for name in ("first_state", "answered"):
            self.assertEqual(getattr(app, name).__module__, "heldflows.app")


if __name__ == "__main__":
    unittest.main()
