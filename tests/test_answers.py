"""The interface: `answers` with all eight calls among one another."""

import contextlib
import io
import unittest

from helper import LEAST, MOST, NODE, TABLE, begin_calls, line, mapping, set_request, split, table_of
from framenode.bus import answers


def over_bus(index, sub, value, size, now=0):
    return [1, 0x600 + NODE, now, 8] + set_request(index, sub, value, size)


def reply_to(index, sub):
    return [8, 0x580 + NODE, 0x60, index & 0xFF, index >> 8, sub, 0, 0, 0, 0]


# Each call with its answer: going map 0 has 2000.1, coming map 0 has 2000.0, and the own heart beats each 100.
STORY = (
    ([7], [127]),
    ([3], [1, 0x705, 0, 0, 0, 0, 0, 0, 0, 0]),
    (over_bus(0x1A00, 1, mapping(0x2000, 1, 2), 4), [0]),
    (over_bus(0x1A00, 0, 1, 1), [0]),
    (over_bus(0x1800, 1, 0x185, 4), [0]),
    (over_bus(0x1600, 1, mapping(0x2000, 0, 1), 4), [0]),
    (over_bus(0x1600, 0, 1, 1), [0]),
    (over_bus(0x1400, 1, 0x205, 4), [0]),
    (over_bus(0x1017, 0, 100, 2, 10), [0]),
    ([3], reply_to(0x1A00, 1)),
    ([3], reply_to(0x1A00, 0)),
    ([3], reply_to(0x1800, 1)),
    ([3], reply_to(0x1600, 1)),
    ([3], reply_to(0x1600, 0)),
    ([3], reply_to(0x1400, 1)),
    ([3], reply_to(0x1017, 0)),
    ([4, 0x1017, 0], [2, 100, 0, 0, 0, 0, 0, 0, 0]),
    ([5, 0x2000, 1, 2, 1, 2], [0]),
    ([3], [-1]),
    ([1, 0, 20, 2, 1, NODE], [0]),
    ([7], [5]),
    ([3], [2, 0x185, 1, 2, 0, 0, 0, 0, 0, 0]),
    ([5, 0x2000, 1, 2, 3, 4], [0]),
    ([6, 0x1234, 1], [0]),
    ([1, 0x205, 30, 1, 9], [0]),
    ([1, 0x205, 30, 0], [0]),
    ([4, 0x2000, 0], [1, 9, 0, 0, 0, 0, 0, 0, 0]),
    ([4, 0x1001, 0], [1, 0x13, 0, 0, 0, 0, 0, 0, 0]),
    ([2, 110], [0]),
    ([3], [2, 0x185, 3, 4, 0, 0, 0, 0, 0, 0]),
    ([3], [8, 0x85, 0x34, 0x12, 3, 0, 0, 0, 0, 0]),
    ([3], [8, 0x85, 0x10, 0x82, 0x13, 0, 0, 0, 0, 0]),
    ([3], [1, 0x705, 5, 0, 0, 0, 0, 0, 0, 0]),
    ([6, 0, 0], [0]),
    ([1, 0, 110, 2, 2, 0], [0]),
    ([7], [4]),
    ([6, 1, 7], [0]),
    ([5, 0x9FFF, 0xFF, 8, 1, 2, 3, 4, 5, 6, 7, 8], [0]),
    ([3], [8, 0x85, 0, 0, 0, 0, 0, 0, 0, 0]),
    ([3], [-1]),
    ([4, 0x1001, 0], [1, 0x81, 0, 0, 0, 0, 0, 0, 0]),
    ([1, 0, 110, 2, 0x82, 0], [0]),
    ([7], [127]),
    ([4, 0x1001, 0], [1, 0, 0, 0, 0, 0, 0, 0, 0]),
    ([4, 0x9FFF, 0xFF], [8, 1, 2, 3, 4, 5, 6, 7, 8]),
    ([1, 0, 110, 2, 0x81, 0], [0]),
    ([4, 0x9FFF, 0xFF], [8, 0, 0, 0, 0, 0, 0, 0, 0]),
    ([3], [1, 0x705, 0, 0, 0, 0, 0, 0, 0, 0]),
    ([3], [1, 0x705, 0, 0, 0, 0, 0, 0, 0, 0]),
    ([3], [-1]),
)

REFUSALS = (
    ([1, -1, 4294967295, 2, 0x81, 0], [-2]),
    ([1, 0x800, 4294967295, 0], [-2]),
    ([1, 0, 4294967295, 9] + [1] * 9, [-2]),
    ([1, 0x605, 4294967295, 16] + [0x80] * 16, [-2]),
    ([4, 0x2000, 4], [-1]),
    ([4, LEAST, MOST], [-1]),
    ([5, 0x2000, 1, 1, 77], [-2]),
    ([5, 0x2000, 1, 0], [-2]),
    ([5, 0x2000, 0, 16] + [77] * 16, [-2]),
    ([5, 0x1017, 0, 2, 77, 77], [-1]),
    ([5, 0x1001, 0, 1, 77], [-1]),
    ([5, 0x1FFF, 0x100, 1, 77], [-1]),
    ([5, LEAST, LEAST, 0], [-1]),
    ([6, -1, 0], [-2]),
    ([6, 0x10000, 5], [-2]),
    ([6, 0, 8], [-2]),
    ([6, 0, -1], [-2]),
    ([6, 0x1234, 8], [-2]),
)


def numbers_of(pairs):
    return begin_calls() + [one for call, answer in pairs for one in call]


def flat(pairs):
    given = [1, 0]
    for call, answer in pairs:
        given += [len(answer)] + answer
    return given


class Guarded(list):
    """A list that can be read alone."""

    def refuse(self, *words, **named):
        raise AssertionError("what's handed in was changed")

    append = extend = insert = pop = remove = clear = sort = reverse = refuse
    __setitem__ = __delitem__ = __iadd__ = __imul__ = refuse


class Among(unittest.TestCase):
    def test_call_by_call(self):
        for count in range(len(STORY) + 1):
            given = answers(numbers_of(STORY[:count]))
            self.assertEqual(given, flat(STORY[:count]))

    def test_what_is_handed_in_stays(self):
        calls = numbers_of(STORY + REFUSALS)
        kept = list(calls)
        answers(calls)
        self.assertEqual(calls, kept)
        self.assertEqual(answers(Guarded(calls)), flat(STORY + REFUSALS))

    def test_refusals_leave_all_as_it_was(self):
        for at in range(len(STORY) + 1):
            pairs = STORY[:at] + REFUSALS + STORY[at:]
            self.assertEqual(answers(numbers_of(pairs)), flat(pairs), at)

    def test_nothing_is_kept_from_one_time_to_the_next(self):
        calls = numbers_of(STORY[:40])
        first = answers(calls)
        answers(begin_calls(9, []) + [6, 1, 1] * 40 + [5, 0x2000, 0, 1, 9, 2, 5000])
        answers(begin_calls(128, []))
        given = list(first)
        first.append(99)
        self.assertEqual(answers(calls), given)

    def test_what_is_given_back_is_whole_numbers(self):
        given = answers(numbers_of(STORY + REFUSALS))
        self.assertIs(type(given), list)
        self.assertEqual({type(one) for one in given}, {int})

    def test_nothing_is_printed(self):
        out = io.StringIO()
        with contextlib.redirect_stdout(out), contextlib.redirect_stderr(out):
            answers(numbers_of(STORY + REFUSALS))
        self.assertEqual(out.getvalue(), "")


class Forms(unittest.TestCase):
    def test_how_many_numbers_each_answers(self):
        calls = begin_calls() + [4, 0x2000, 0, 4, 0, 0, 5, 0x2000, 0, 1, 9, 5, 0, 0, 0, 5, 0x2000, 0, 0]
        calls += [6, 1, 1, 6, -1, 1, 7, 3, 3, 3]
        self.assertEqual([len(part) for part in split(answers(calls))], [1, 9, 1, 1, 1, 1, 1, 1, 1, 10, 10, 1])

    def test_rows_are_not_read_as_calls(self):
        for count in (0, 1, 7, 16):
            for number in range(8):
                calls = begin_calls() + [5, 0x2000, 3, count] + [number] * count + [7]
                self.assertEqual(answers(calls), [1, 0, 1, -2, 1, 127])

    def test_numbers_are_not_read_as_calls(self):
        self.assertEqual(answers([0, 5, 0, 4, 7, 7, 6, 7, 7, 7]), [1, 0, 1, -1, 1, 0, 1, 127])
        self.assertEqual(answers([0, 5, 0, 4, 3, 3, 6, -3, 3, 5, 7, 7, 1, 7]), [1, 0, 1, -1, 1, -2, 1, -1])

    def test_each_call_by_itself(self):
        for call, answer in (
            ([1, 0x7FF, 0, 0], [1, 0]),
            ([2, 4294967295], [1, 0]),
            ([3], [10, 1, 0x705, 0, 0, 0, 0, 0, 0, 0, 0]),
            ([4, 0x1014, 0], [9, 4, 0x85, 0, 0, 0, 0, 0, 0, 0]),
            ([5, 0x2000, 0, 1, 1], [1, 0]),
            ([6, 0xFFFF, 7], [1, 0]),
            ([7], [1, 127]),
        ):
            self.assertEqual(answers(begin_calls() + call), [1, 0] + answer)


class Longest(unittest.TestCase):
    LINES = table_of(*[line(0x9FC0 + at, 255, 8, "rwm") for at in range(64)])

    def answered(self, calls):
        given = split(answers(begin_calls(127, self.LINES) + calls))
        self.assertEqual(given[0], [0])
        return given[1:]

    def test_sets(self):
        self.assertEqual(self.answered(([5, 0x9FC0, 255, 16] + [255] * 16) * 999), [[-2]] * 999)
        self.assertEqual(self.answered(([5, 0x9FFF, 255, 8] + [255] * 8) * 999), [[0]] * 999)

    def test_frames(self):
        self.assertEqual(self.answered(([1, 0x67F, 4294967295, 16] + [255] * 16) * 999), [[-2]] * 999)
        self.assertEqual(self.answered(([1, 0x67F, 4294967295, 8] + [0x40] * 8) * 999), [[0]] * 999)

    def test_gets(self):
        self.assertEqual(self.answered([4, 0x9FFF, 255] * 999), [[8] + [0] * 8] * 999)

    def test_faults_and_takes(self):
        given = self.answered([6, 0xFFFF, 7, 3, 7] * 333)
        told = [8, 0xFF, 0xFF, 0xFF, 0x81, 0, 0, 0, 0, 0]
        self.assertEqual(given[:3], [[0], [1, 0x77F] + [0] * 8, [127]])
        self.assertEqual(given[3:], [[0], told, [127]] * 332)

    def test_sets_with_every_map_going(self):
        calls = []
        for place in range(4):
            for sub in range(1, 9):
                calls += [1, 0x605, 0, 8] + set_request(0x1A00 + place, sub, mapping(0x2000, 0, 1), 4) + [3]
            calls += [1, 0x605, 0, 8] + set_request(0x1A00 + place, 0, 8, 1) + [3]
            calls += [1, 0x605, 0, 8] + set_request(0x1800 + place, 1, 0x181 + place, 4) + [3]
        calls += [1, 0, 0, 2, 1, 0, 3]
        rounds = (999 - 82) // 5
        for count in range(rounds):
            calls += [5, 0x2000, 0, 1, 1 + count % 2, 3, 3, 3, 3]
        given = split(answers(begin_calls(NODE, TABLE) + calls))
        self.assertEqual(given[-5:], [[0]] + [[8, 0x181 + place] + [1 + (rounds - 1) % 2] * 8 for place in range(4)])

    def test_a_row_that_is_full_all_along(self):
        given = self.answered([6, 1, 1] * 967 + [3] * 32)
        self.assertEqual(given[:967], [[0]] * 967)
        self.assertEqual(given[967:], [[1, 0x77F] + [0] * 8] + [[8, 0xFF, 1, 0, 3, 0, 0, 0, 0, 0]] * 31)


if __name__ == "__main__":
    unittest.main()
