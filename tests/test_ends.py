"""Points 200 to 207: one end of the two streams of a flow."""

import random
import unittest

from heldflows import ends
from heldflows.ends import End, end_of

NEW = (0, (), 0, 0, 0, 0, (), None)


def row(many, first=0):
    """Returns so many bytes, no two of them that stand close to each other alike."""
    return tuple((first + 7 * at) % 256 for at in range(many))


def end_with(data, closed=False):
    """Returns an end that has written these bytes."""
    end = End()
    end.write(data)
    if closed:
        end.close()
    return end


def pieces_of(data, closed, base=0):
    """Returns the offset, the bytes and `last` of each segment that is due, if all of the stream from `base` is."""
    rest = data[base:]
    window = rest[:32]
    if not window:
        return [(base, (), closed)]
    found = []
    for at in range(0, len(window), 8):
        is_last = closed == 1 and at + 8 >= len(rest)
        found.append((base + at, window[at:at + 8], int(is_last)))
    return found


class Model:
    """What the document says of an end, with both streams kept whole."""

    def __init__(self):
        self.written = ()
        self.closed = 0
        self.known = 0
        self.given = 0
        self.seen = {}
        self.got = ()
        self.stop = None

    def write(self, data):
        self.written += data

    def close(self):
        self.closed = 1

    def ended(self):
        return int(len(self.got) == self.stop)

    def taken(self):
        return len(self.got) + self.ended()

    def due(self):
        return [piece + (self.taken(),) for piece in pieces_of(self.written, self.closed, self.known)]

    def take(self, offset, data, last, taken):
        if taken == len(self.written) + 1:
            self.given = 1
        self.known = max(self.known, min(taken, len(self.written)))
        for at, byte in enumerate(data):
            self.seen[offset + at] = byte
        if last:
            self.stop = offset + len(data)
        before = len(self.got)
        while len(self.got) in self.seen:
            self.got += (self.seen[len(self.got)],)
        return self.got[before:]

    def picture(self):
        pieces = tuple((at, self.seen[at]) for at in sorted(self.seen) if at >= len(self.got))
        return (
            self.known, self.written[self.known:], self.closed, self.given, len(self.got), self.ended(), pieces,
            self.stop)


class EndCase(unittest.TestCase):
    def looks(self, end, *picture):
        self.assertEqual(end.picture(), picture)
        _, _, _, given, got, ended, _, _ = picture
        self.assertEqual(end.taken(), got + ended)
        self.assertIs(end.has_end(), ended == 1)
        self.assertIs(end.is_given(), given == 1)


class NewTest(EndCase):
    def test_it_has_written_and_taken_nothing(self):
        self.looks(End(), *NEW)
        self.assertEqual(End().due(), [(0, (), 0, 0)])

    def test_kinds_of_values(self):
        end = End()
        self.assertIsNone(end.write((7, 8)))
        self.assertIsNone(end.close())
        self.assertIs(type(end.due()), list)
        self.assertIs(type(end.take(0, (1,), 1, 3)), tuple)
        self.assertIs(type(end.taken()), int)
        self.assertIs(end.has_end(), True)
        self.assertIs(end.is_given(), True)
        self.assertIs(type(end.picture()), tuple)
        for part in end.picture():
            self.assertIn(type(part), (int, tuple))
        for part in end.due()[0]:
            self.assertIn(type(part), (int, tuple))

    def test_the_example_of_the_interface(self):
        end = End()
        end.write((7, 8, 9))
        self.assertEqual(end.due(), [(0, (7, 8, 9), 0, 0)])
        self.assertEqual(end.take(1, (5,), 1, 2), ())
        self.assertEqual(end.take(0, (4, 5), 1, 2), (4, 5))
        self.looks(end, 2, (9,), 0, 0, 2, 1, (), 2)

    def test_ends_share_nothing(self):
        first, second = End(), End()
        first.write((1, 2))
        first.close()
        first.take(3, (4,), 0, 1)
        self.looks(second, *NEW)


class DueTest(EndCase):
    def test_pieces(self):
        for many in (0, 1, 7, 8, 9, 16, 17, 31, 32, 33, 40, 41, 100):
            for closed in (0, 1):
                data = row(many)
                expected = [piece + (0,) for piece in pieces_of(data, closed)]
                self.assertEqual(end_with(data, closed).due(), expected, (many, closed))

    def test_pieces_that_are_put_down(self):
        data = row(33)
        self.assertEqual(end_with(data[:1]).due(), [(0, data[:1], 0, 0)])
        self.assertEqual(end_with(data[:8], True).due(), [(0, data[:8], 1, 0)])
        self.assertEqual(end_with(data[:9], True).due(), [(0, data[:8], 0, 0), (8, data[8:9], 1, 0)])
        whole = [(0, data[:8], 0, 0), (8, data[8:16], 0, 0), (16, data[16:24], 0, 0)]
        self.assertEqual(end_with(data[:32], True).due(), whole + [(24, data[24:32], 1, 0)])
        self.assertEqual(end_with(data[:32]).due(), whole + [(24, data[24:32], 0, 0)])
        # The last byte is not among those that are sent.
        self.assertEqual(end_with(data, True).due(), whole + [(24, data[24:32], 0, 0)])

    def test_no_bytes(self):
        self.assertEqual(end_with(()).due(), [(0, (), 0, 0)])
        self.assertEqual(end_with((), True).due(), [(0, (), 1, 0)])

    def test_with_bytes_that_are_known_to_be_taken(self):
        for many in (1, 8, 9, 32, 33, 45):
            for known in range(many + 1):
                for closed in (0, 1):
                    end = end_with(row(many), closed)
                    end.take(0, (), 0, known)
                    expected = [piece + (0,) for piece in pieces_of(row(many), closed, known)]
                    self.assertEqual(end.due(), expected, (many, known, closed))

    def test_when_all_is_known_to_be_taken(self):
        end = end_with(row(3), True)
        end.take(0, (), 0, 3)
        self.assertEqual(end.due(), [(3, (), 1, 0)])
        self.assertIs(end.is_given(), False)
        end.take(0, (), 0, 4)
        self.assertEqual(end.due(), [(3, (), 1, 0)])
        self.assertIs(end.is_given(), True)

    def test_all_segments_have_the_same_taken(self):
        end = end_with(row(40))
        end.take(0, (5, 6, 7), 0, 0)
        self.assertEqual([segment[3] for segment in end.due()], [3] * 4)
        end.take(3, (8,), 1, 0)
        self.assertEqual([segment[3] for segment in end.due()], [5] * 4)
        self.assertEqual(end_with(()).due()[0][3], 0)

    def test_it_changes_nothing(self):
        end = end_with(row(20), True)
        end.take(2, (5, 6), 1, 4)
        picture = end.picture()
        first = end.due()
        self.assertEqual(end.due(), first)
        self.assertEqual(end.picture(), picture)

    def test_the_list_may_be_changed(self):
        for end in (End(), end_with(row(20), True)):
            first = end.due()
            kept = list(first)
            picture = end.picture()
            first.clear()
            self.assertEqual(end.due(), kept)
            end.due().append((0, (), 0, 0))
            self.assertEqual(end.due(), kept)
            self.assertEqual(end.picture(), picture)


class WriteTest(EndCase):
    def test_bytes_stand_behind_those_before(self):
        end = End()
        for data in ((1, 2), (), (3,), (0, 255)):
            end.write(data)
        self.looks(end, 0, (1, 2, 3, 0, 255), 0, 0, 0, 0, (), None)
        end.take(0, (), 0, 2)
        end.write((9,))
        self.looks(end, 2, (3, 0, 255, 9), 0, 0, 0, 0, (), None)
        self.assertEqual(end.due(), [(2, (3, 0, 255, 9), 0, 0)])

    def test_close(self):
        end = end_with((1, 2))
        end.close()
        self.looks(end, 0, (1, 2), 1, 0, 0, 0, (), None)
        self.assertEqual(end.due(), [(0, (1, 2), 1, 0)])

    def test_behind_close_nothing_is_written(self):
        end = end_with((1, 2), True)
        end.write((3,))
        end.close()
        self.looks(end, 0, (1, 2), 1, 0, 0, 0, (), None)

    def test_a_stream_that_is_closed_later(self):
        end = end_with(row(8))
        self.assertEqual(end.due(), [(0, row(8), 0, 0)])
        end.close()
        self.assertEqual(end.due(), [(0, row(8), 1, 0)])
        end = end_with(row(2))
        end.take(0, (), 0, 2)
        end.close()
        self.assertEqual(end.due(), [(2, (), 1, 0)])
        self.assertIs(end.is_given(), False)

    def test_bytes_go_on_while_the_other_side_has_ended(self):
        end = End()
        end.take(0, (), 1, 0)
        end.write((4, 5))
        self.assertEqual(end.due(), [(0, (4, 5), 0, 1)])
        self.looks(end, 0, (4, 5), 0, 0, 0, 1, (), 0)


class TakeTest(EndCase):
    def test_in_order(self):
        end = End()
        self.assertEqual(end.take(0, (1, 2), 0, 0), (1, 2))
        self.looks(end, 0, (), 0, 0, 2, 0, (), None)
        self.assertEqual(end.take(2, (3,), 0, 0), (3,))
        self.assertEqual(end.take(3, (4, 0), 1, 0), (4, 0))
        self.looks(end, 0, (), 0, 0, 5, 1, (), 5)

    def test_the_other_way_round(self):
        end = End()
        self.assertEqual(end.take(3, (4, 0), 1, 0), ())
        self.looks(end, 0, (), 0, 0, 0, 0, ((3, 4), (4, 0)), 5)
        self.assertEqual(end.take(2, (3,), 0, 0), ())
        self.looks(end, 0, (), 0, 0, 0, 0, ((2, 3), (3, 4), (4, 0)), 5)
        self.assertEqual(end.take(0, (1, 2), 0, 0), (1, 2, 3, 4, 0))
        self.looks(end, 0, (), 0, 0, 5, 1, (), 5)

    def test_twice(self):
        end = End()
        self.assertEqual(end.take(0, (1, 2), 0, 0), (1, 2))
        self.assertEqual(end.take(0, (1, 2), 0, 0), ())
        self.looks(end, 0, (), 0, 0, 2, 0, (), None)
        for _ in range(2):
            self.assertEqual(end.take(4, (5,), 1, 0), ())
            self.looks(end, 0, (), 0, 0, 2, 0, ((4, 5),), 5)
        self.assertEqual(end.take(2, (3, 4), 0, 0), (3, 4, 5))
        for _ in range(2):
            self.assertEqual(end.take(4, (5,), 1, 0), ())
            self.looks(end, 0, (), 0, 0, 5, 1, (), 5)

    def test_overlapping(self):
        end = End()
        self.assertEqual(end.take(0, (1, 2, 3), 0, 0), (1, 2, 3))
        self.assertEqual(end.take(1, (2, 3, 4, 5), 0, 0), (4, 5))
        self.assertEqual(end.take(7, (8, 9), 0, 0), ())
        self.assertEqual(end.take(6, (7, 8, 9, 10), 0, 0), ())
        self.looks(end, 0, (), 0, 0, 5, 0, ((6, 7), (7, 8), (8, 9), (9, 10)), None)
        self.assertEqual(end.take(0, (1, 2, 3, 4, 5, 6, 7, 8), 0, 0), (6, 7, 8, 9, 10))
        self.looks(end, 0, (), 0, 0, 10, 0, (), None)

    def test_with_gaps(self):
        end = End()
        self.assertEqual(end.take(2, (3,), 0, 0), ())
        self.assertEqual(end.take(4, (5,), 0, 0), ())
        self.assertEqual(end.take(0, (1,), 0, 0), (1,))
        self.looks(end, 0, (), 0, 0, 1, 0, ((2, 3), (4, 5)), None)
        self.assertEqual(end.take(1, (2,), 0, 0), (2, 3))
        self.looks(end, 0, (), 0, 0, 3, 0, ((4, 5),), None)
        self.assertEqual(end.take(3, (4,), 0, 0), (4, 5))
        self.looks(end, 0, (), 0, 0, 5, 0, (), None)

    def test_the_kept_bytes_are_ascending(self):
        data = row(32)
        end = End()
        for at in (24, 8, 16):
            self.assertEqual(end.take(at, data[at:at + 8], 0, 0), ())
        pieces = tuple((at, data[at]) for at in range(8, 32))
        self.looks(end, 0, (), 0, 0, 0, 0, pieces, None)
        self.assertEqual(end.take(0, data[:8], 0, 0), data)

    def test_an_empty_stream_that_ends(self):
        end = End()
        self.assertEqual(end.take(0, (), 1, 0), ())
        self.looks(end, 0, (), 0, 0, 0, 1, (), 0)
        self.assertEqual(end.due(), [(0, (), 0, 1)])

    def test_a_last_segment_with_no_data(self):
        end = End()
        self.assertEqual(end.take(0, (1, 2), 0, 0), (1, 2))
        self.assertEqual(end.take(2, (), 0, 0), ())
        self.looks(end, 0, (), 0, 0, 2, 0, (), None)
        self.assertEqual(end.take(2, (), 1, 0), ())
        self.looks(end, 0, (), 0, 0, 2, 1, (), 2)

    def test_a_last_segment_with_no_data_ahead_of_those_before_it(self):
        end = End()
        self.assertEqual(end.take(3, (), 1, 0), ())
        self.looks(end, 0, (), 0, 0, 0, 0, (), 3)
        self.assertEqual(end.take(1, (2, 3), 0, 0), ())
        self.looks(end, 0, (), 0, 0, 0, 0, ((1, 2), (2, 3)), 3)
        self.assertEqual(end.take(0, (1,), 0, 0), (1, 2, 3))
        self.looks(end, 0, (), 0, 0, 3, 1, (), 3)

    def test_an_end_that_is_known_stays_known(self):
        end = End()
        end.take(8, (9,), 1, 0)
        end.take(0, row(8), 0, 0)
        self.looks(end, 0, (), 0, 0, 9, 1, (), 9)
        # An earlier one of the same stream, from before it was closed.
        self.assertEqual(end.take(8, (9,), 0, 0), ())
        self.assertEqual(end.take(9, (), 0, 0), ())
        self.looks(end, 0, (), 0, 0, 9, 1, (), 9)

    def test_the_end_of_a_stream_that_was_taken_before_it_was_closed(self):
        end = End()
        self.assertEqual(end.take(0, (1, 2, 3), 0, 0), (1, 2, 3))
        self.assertEqual(end.take(0, (1, 2, 3), 1, 0), ())
        self.looks(end, 0, (), 0, 0, 3, 1, (), 3)


class KnownTest(EndCase):
    def test_what_is_taken_is_known(self):
        end = end_with((1, 2, 3))
        end.take(0, (), 0, 2)
        self.looks(end, 2, (3,), 0, 0, 0, 0, (), None)
        end.take(0, (), 0, 3)
        self.looks(end, 3, (), 0, 0, 0, 0, (), None)

    def test_less_than_is_known(self):
        end = end_with(row(10), True)
        end.take(0, (), 0, 6)
        for taken in (0, 1, 5, 6):
            end.take(0, (), 0, taken)
            self.looks(end, 6, row(10)[6:], 1, 0, 0, 0, (), None)
        end.take(0, (), 0, 11)
        for taken in (0, 6, 10, 11):
            end.take(0, (), 0, taken)
            self.looks(end, 10, (), 1, 1, 0, 0, (), None)

    def test_the_end(self):
        end = end_with((1, 2, 3), True)
        end.take(0, (), 0, 3)
        self.looks(end, 3, (), 1, 0, 0, 0, (), None)
        end.take(0, (), 0, 4)
        self.looks(end, 3, (), 1, 1, 0, 0, (), None)

    def test_the_bytes_and_the_end_at_once(self):
        end = end_with((1, 2, 3), True)
        end.take(0, (), 0, 4)
        self.looks(end, 3, (), 1, 1, 0, 0, (), None)

    def test_the_end_of_an_empty_stream(self):
        end = end_with((), True)
        end.take(0, (), 0, 0)
        self.looks(end, 0, (), 1, 0, 0, 0, (), None)
        end.take(0, (), 0, 1)
        self.looks(end, 0, (), 1, 1, 0, 0, (), None)

    def test_all_bytes_of_a_stream_that_is_open(self):
        end = end_with((1, 2, 3))
        end.take(0, (), 0, 3)
        self.looks(end, 3, (), 0, 0, 0, 0, (), None)
        end.write((4,))
        end.take(0, (), 0, 4)
        self.looks(end, 4, (), 0, 0, 0, 0, (), None)
        end.close()
        self.looks(end, 4, (), 1, 0, 0, 0, (), None)

    def test_it_is_known_from_any_segment(self):
        end = end_with((1, 2, 3), True)
        self.assertEqual(end.take(5, (6,), 1, 2), ())
        self.looks(end, 2, (3,), 1, 0, 0, 0, ((5, 6),), 6)
        self.assertEqual(end.take(0, (1, 2, 3, 4, 5), 0, 4), (1, 2, 3, 4, 5, 6))
        self.looks(end, 3, (), 1, 1, 6, 1, (), 6)


class PictureTest(EndCase):
    # The other side's stream; it is closed.
    other = row(20, 100)

    def segment(self, first, behind, taken):
        return first, self.other[first:behind], int(behind == 20), taken

    def pictured(self):
        """Returns ends of many states; each of them has written three bytes at least."""
        found = []
        for many, closed in ((3, 0), (3, 1), (40, 0), (40, 1)):
            for parts in (
                    [], [(0, 5, 0)], [(0, 5, 2)], [(8, 12, 3)], [(8, 20, 1)], [(12, 20, 0), (4, 9, 3)], [(0, 20, 2)],
                    [(0, 20, 3), (0, 4, 0)], [(20, 20, 1)], [(16, 20, many + closed)], [(0, 0, many + closed)]):
                end = end_with(row(many), closed)
                for part in parts:
                    end.take(*self.segment(*part))
                found.append(end)
        return found

    def test_it_has_the_same_picture(self):
        for end in self.pictured() + [End(), end_with(()), end_with((), True)]:
            other = end_of(end.picture())
            self.assertIs(type(other), End)
            self.looks(other, *end.picture())
            self.assertEqual(other.due(), end.due())

    def test_it_goes_on_as_the_other_one(self):
        calls = (
            (End.write, ((9, 8),)), (End.take, self.segment(5, 11, 1)), (End.take, self.segment(0, 4, 3)),
            (End.write, (row(40),)), (End.close, ()), (End.take, self.segment(2, 9, 2)),
            (End.take, self.segment(11, 20, 3)), (End.take, self.segment(20, 20, 0)))
        for end in self.pictured():
            is_closed = end.picture()[2] == 1
            other = end_of(end.picture())
            for call, parts in calls:
                if not (is_closed and call is End.write):
                    self.assertEqual(call(end, *parts), call(other, *parts))
                    self.looks(other, *end.picture())
                    self.assertEqual(other.due(), end.due())
                    other = end_of(other.picture())
            self.assertIs(end.has_end(), True)

    def change(self, end):
        if end.picture()[2] == 0:
            end.write((1, 2, 3))
            end.close()
        end.take(*self.segment(14, 18, 2))
        end.take(*self.segment(0, 7, 3))

    def test_they_do_not_change_each_other(self):
        for end in self.pictured():
            picture = end.picture()
            other = end_of(picture)
            third = end_of(picture)
            self.change(other)
            self.assertEqual(end.picture(), picture)
            self.assertEqual(third.picture(), picture)
            changed = other.picture()
            self.change(end)
            self.assertEqual(end.picture(), changed)
            self.assertEqual(other.picture(), changed)
            self.assertEqual(third.picture(), picture)

    def test_a_picture_stays_as_it_is(self):
        end = end_with(row(3))
        end.take(4, (5,), 0, 1)
        picture = end.picture()
        end.take(0, row(4), 0, 3)
        end.write((1,))
        end.close()
        self.assertEqual(picture, (1, row(3)[1:], 0, 0, 0, 0, ((4, 5),), None))


class Line:
    """Segments on their way from one end to the other, and the two whole streams."""

    def __init__(self, choices):
        self.choices = choices
        self.ends = [End(), End()]
        self.models = [Model(), Model()]
        self.letters = [[], []]
        self.taken = [(), ()]

    def write(self, side, data):
        if not self.models[side].closed:
            self.ends[side].write(data)
            self.models[side].write(data)

    def close(self, side):
        self.ends[side].close()
        self.models[side].close()

    def send(self, side):
        self.letters[1 - side].extend(self.ends[side].due())

    def arrive(self, side, segment):
        data = self.ends[side].take(*segment)
        self.taken[side] += data
        return data == self.models[side].take(*segment)

    def move(self, side):
        self.ends[side] = end_of(self.ends[side].picture())

    def drawn_letter(self, side):
        """Takes a segment out of the line, or a copy of one."""
        at = self.choices.randrange(len(self.letters[side]))
        if self.choices.random() < 0.3:
            return self.letters[side][at]
        return self.letters[side].pop(at)

    def left(self):
        """Returns the greater number of bytes that are not known to be taken."""
        return max(len(end.picture()[1]) for end in self.ends)

    def is_done(self):
        return all(end.has_end() and end.is_given() for end in self.ends)


class TwoEndsTest(EndCase):
    def step(self, line):
        """Does one of the things that may happen on a line."""
        choices = line.choices
        side = choices.randrange(2)
        kind = choices.randrange(12)
        if kind < 2:
            line.write(side, tuple(choices.randrange(256) for _ in range(choices.choice((0, 1, 5, 8, 20, 60)))))
        elif kind == 2 and choices.random() < 0.15:
            line.close(side)
        elif kind < 5:
            line.send(side)
        elif kind == 5:
            line.move(side)
        elif kind == 6 and line.letters[side]:
            line.letters[side].pop(choices.randrange(len(line.letters[side])))
        elif line.letters[side]:
            self.assertIs(line.arrive(side, line.drawn_letter(side)), True)

    def check(self, line):
        for side in range(2):
            end, other = line.ends[side], line.models[1 - side]
            self.looks(end, *line.models[side].picture())
            self.assertEqual(end.due(), line.models[side].due())
            self.assertEqual(line.taken[side], other.written[:len(line.taken[side])])
            if end.has_end():
                self.assertEqual((other.closed, line.taken[side]), (1, other.written))
            if end.is_given():
                self.assertIs(line.ends[1 - side].has_end(), True)
            self.assertLessEqual(len(end.picture()[6]), 32)

    def rounds(self, line, many):
        """Does rounds in which all segments that are due at their beginning arrive, and late ones, too."""
        for _ in range(many):
            due = [(1 - side, segment) for side in range(2) for segment in line.ends[side].due()]
            line.choices.shuffle(due)
            for side, segment in due:
                self.assertIs(line.arrive(side, segment), True)
                if line.letters[side] and line.choices.random() < 0.2:
                    self.assertIs(line.arrive(side, line.drawn_letter(side)), True)
                if line.choices.random() < 0.1:
                    line.move(side)

    def test_drawn_orders(self):
        for seed in range(150):
            line = Line(random.Random(seed))
            for _ in range(line.choices.randrange(200)):
                self.step(line)
                self.check(line)
            line.close(0)
            line.close(1)
            self.rounds(line, max(2, 2 * ((line.left() + 31) // 32)))
            self.check(line)
            self.assertIs(line.is_done(), True)
            for side in range(2):
                self.assertEqual(line.taken[side], line.models[1 - side].written)

    def test_two_rounds_for_each_32_bytes(self):
        for one, other in ((0, 0), (1, 0), (0, 7), (32, 32), (33, 1), (5, 64), (65, 64), (96, 200), (4000, 0)):
            line = Line(random.Random(one))
            line.write(0, row(one))
            line.write(1, row(other, 3))
            line.close(0)
            line.close(1)
            self.rounds(line, max(2, 2 * ((max(one, other) + 31) // 32)))
            self.assertIs(line.is_done(), True)
            self.assertEqual(line.taken, [row(other, 3), row(one)])

    def test_streams_that_stay_open(self):
        line = Line(random.Random(5))
        line.write(0, row(70))
        self.rounds(line, 6)
        self.looks(line.ends[0], 70, (), 0, 0, 0, 0, (), None)
        self.looks(line.ends[1], 0, (), 0, 0, 70, 0, (), None)
        line.close(0)
        self.rounds(line, 2)
        self.looks(line.ends[0], 70, (), 1, 1, 0, 0, (), None)
        self.looks(line.ends[1], 0, (), 0, 0, 70, 1, (), 70)

    def test_nothing_arrives(self):
        line = Line(random.Random(6))
        line.write(0, row(70))
        for _ in range(5):
            line.send(0)
        self.assertEqual(line.ends[0].due(), line.models[0].due())
        self.looks(line.ends[1], *NEW)


class PlaceTest(unittest.TestCase):
    def test_names_are_defined_in_their_file(self):
        self.assertEqual((End.__module__, ends.end_of.__module__), ("heldflows.ends", "heldflows.ends"))
        for name in ("write", "close", "due", "take", "taken", "has_end", "is_given", "picture"):
            self.assertIn(name, vars(End))


if __name__ == "__main__":
    unittest.main()
