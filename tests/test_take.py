"""Promise 3: cn_take and the row of 32; and the interface, `answers`."""

import unittest

from helper import Bus, NODE, TABLE, begin_calls, split
from framenode.bus import answers

ASK = [1, 0x605, 0, 8, 0x40, 0x00, 0x10, 0, 0, 0, 0, 0]
ASKED = [8, 0x585, 0x43, 0x00, 0x10, 0, 0, 0, 0, 0]
FIRST = [1, 0x705] + [0] * 8


class Take(unittest.TestCase):
    def test_an_empty_row(self):
        bus = Bus()
        for count in range(3):
            self.assertEqual(bus.take_raw(), [-1])

    def test_in_order_and_gone(self):
        bus = Bus(keep_first=True)
        bus.frame(0x605, [0x40, 0x14, 0x10, 0, 0, 0, 0, 0])
        bus.frame(0x605, [0x40, 0x05, 0x10, 0, 0, 0, 0, 0])
        self.assertEqual(bus.take_raw(), FIRST)
        self.assertEqual(bus.take_raw(), [8, 0x585, 0x43, 0x14, 0x10, 0, 0x85, 0, 0, 0])
        bus.frame(0x605, ASK[4:])
        self.assertEqual(bus.take_raw(), [8, 0x585, 0x43, 0x05, 0x10, 0, 0x80, 0, 0, 0])
        self.assertEqual(bus.take_raw(), ASKED)
        self.assertEqual(bus.take_raw(), [-1])

    def test_zeros_behind(self):
        bus = Bus()
        bus.going(0, [(0x2000, 0, 1), (0x2000, 1, 2)], 1)
        bus.set(0x2000, 0, 0xF1, 1)
        bus.set(0x2000, 1, 0xF3F2, 2)
        bus.work()
        bus.frame(0x80)
        self.assertEqual(bus.take_raw(), [3, 0x185, 0xF1, 0xF2, 0xF3, 0, 0, 0, 0, 0])

    def test_a_call_that_takes_ends_nothing(self):
        bus = Bus()
        bus.set(0x1017, 0, 10, 2)
        bus.tick(9)
        self.assertEqual(bus.take_raw(), [-1])
        self.assertEqual(bus.ticked(10), [(0x705, [0x7F])])


class FullRow(unittest.TestCase):
    def filled(self, count, *calls):
        """A row with the beginning frame and so many answers; then the calls; then all that's taken."""
        numbers = begin_calls() + ASK * count
        for call in calls:
            numbers += call
        taken = split(answers(numbers + [3] * 40))[1 + count + len(calls):]
        frames = [frame for frame in taken if frame != [-1]]
        self.assertEqual(taken[len(frames):], [[-1]] * (40 - len(frames)))
        return frames

    def test_32_are_kept(self):
        self.assertEqual(self.filled(30), [FIRST] + [ASKED] * 30)
        self.assertEqual(self.filled(31), [FIRST] + [ASKED] * 31)

    def test_the_33rd_is_lost(self):
        other = [1, 0x605, 0, 8, 0x40, 0x05, 0x10, 0, 0, 0, 0, 0]
        kept = [8, 0x585, 0x43, 0x05, 0x10, 0, 0x80, 0, 0, 0]
        self.assertEqual(self.filled(30, other), [FIRST] + [ASKED] * 30 + [kept])
        self.assertEqual(self.filled(31, other), [FIRST] + [ASKED] * 31)
        self.assertEqual(self.filled(40), [FIRST] + [ASKED] * 31)

    def test_the_call_is_done_all_the_same(self):
        bus = Bus()
        for count in range(32):
            bus.frame(0x605, ASK[4:])
        self.assertEqual(bus.frame(0x605, [0x2F, 0, 0x20, 0, 9, 0, 0, 0]), [0])
        self.assertEqual(len(bus.take_all()), 32)
        self.assertEqual(bus.ask(0x2000, 0), [9])

    def test_the_beginning_frame_is_lost_too(self):
        anew = [1, 0, 0, 2, 0x82, NODE]
        self.assertEqual(self.filled(30, anew), [FIRST] + [ASKED] * 30 + [FIRST])
        self.assertEqual(self.filled(31, anew), [FIRST] + [ASKED] * 31)

    def test_room_again_when_one_is_taken(self):
        bus = Bus(keep_first=True)
        for count in range(35):
            bus.frame(0x605, ASK[4:])
        self.assertEqual(bus.take_raw(), FIRST)
        bus.frame(0x605, [0x40, 0x05, 0x10, 0, 0, 0, 0, 0])
        bus.frame(0x605, ASK[4:])
        frames = bus.take_all()
        self.assertEqual(len(frames), 32)
        self.assertEqual(frames[-1], (0x585, [0x43, 0x05, 0x10, 0, 0x80, 0, 0, 0]))

    def test_a_lost_map_counts_as_sent(self):
        bus = Bus()
        bus.going(0, [(0x2000, 0, 1)], often=50)
        bus.work()
        for count in range(32):
            bus.frame(0x605, ASK[4:])
        bus.tick(50)
        self.assertEqual(len(bus.take_all()), 32)
        self.assertEqual(bus.ticked(99), [])
        self.assertEqual(bus.ticked(100), [(0x185, [0])])

    def test_a_lost_change_is_not_sent_later(self):
        bus = Bus()
        bus.going(0, [(0x2000, 0, 1)])
        bus.work()
        for count in range(32):
            bus.frame(0x605, ASK[4:])
        bus.frame(0x605, [0x2F, 0, 0x20, 0, 9, 0, 0, 0])
        self.assertEqual(len(bus.take_all()), 32)
        self.assertEqual(bus.ticked(1000), [])

    def test_a_lost_heart_counts_as_sent(self):
        bus = Bus()
        bus.set(0x1017, 0, 100, 2)
        for count in range(32):
            bus.frame(0x605, ASK[4:])
        bus.tick(100)
        self.assertEqual(len(bus.take_all()), 32)
        self.assertEqual(bus.ticked(199), [])
        self.assertEqual(bus.ticked(200), [(0x705, [0x7F])])


class Answers(unittest.TestCase):
    CALLS = begin_calls() + [2, 7] + ASK + [1, 0x800, 9, 0, 3, 3, 3, 1, 0x123, 4294967295, 9] + [1] * 9 + [2, 0]

    def test_what_is_given_back(self):
        given = [1, 0, 1, 0, 1, 0, 1, -2, 10] + FIRST + [10] + ASKED + [1, -1, 1, -2, 1, 0]
        self.assertEqual(answers(self.CALLS), given)

    def test_cn_begin_alone(self):
        self.assertEqual(answers([0, 5, 0]), [1, 0])
        self.assertEqual(answers([0, 0, 0]), [1, -2])
        self.assertEqual(answers([0, 5, 8] + [0] * 8), [1, -2])
        self.assertEqual(answers([0, 128, len(TABLE)] + TABLE), [1, -2])

    def test_the_longest_rows(self):
        self.assertEqual(answers([0, 5, 528] + [0] * 528), [1, -2])
        self.assertEqual(answers([0, 5, 0, 1, 0, 0, 16] + [3] * 16 + [3]), [1, 0, 1, -2, 10] + FIRST)

    def test_rows_are_not_read_as_calls(self):
        self.assertEqual(answers([0, 5, 0, 1, 0x123, 3, 8] + [3] * 8), [1, 0, 1, 0])
        self.assertEqual(answers([0, 5, 0, 1, 0x123, 3, 0, 2, 3]), [1, 0, 1, 0, 1, 0])

    def test_what_is_handed_in_stays(self):
        calls = list(self.CALLS)
        answers(calls)
        self.assertEqual(calls, self.CALLS)

    def test_a_table_stays_through_81(self):
        calls = begin_calls() + [1, 0x605, 0, 8, 0x2F, 0, 0x20, 0, 9, 0, 0, 0, 1, 0, 0, 2, 0x81, 0] + [3] * 4
        kept = list(calls)
        self.assertEqual(answers(calls)[-2:], [1, -1])
        self.assertEqual(calls, kept)

    def test_nothing_is_kept_from_one_time_to_the_next(self):
        first = answers(self.CALLS)
        answers(begin_calls(9, []) + ASK * 40 + [2, 5000])
        first.append(99)
        self.assertEqual(answers(self.CALLS), first[:-1])

    def test_what_is_given_back_is_whole_numbers(self):
        given = answers(self.CALLS)
        self.assertIs(type(given), list)
        self.assertEqual({type(one) for one in given}, {int})

    def test_a_thousand_calls(self):
        numbers = begin_calls(NODE, TABLE) + (ASK + [3, 2, 4294967295]) * 333
        self.assertEqual(len(split(answers(numbers))), 1000)


if __name__ == "__main__":
    unittest.main()
