"""Promise 2: going maps, at marks and at the end of cn_frame and cn_tick."""

import unittest

from helper import AT_WORK, BEFORE_WORK, BYTE, Bus, EIGHT, FOUR, OFF, OTHER, STOPPED, TWO, going_bus


class WhenChanged(unittest.TestCase):
    def test_sent_at_the_end_of_the_call(self):
        for when in (0xFE, 0xFF):
            bus = going_bus(when=when)
            self.assertEqual(bus.set(0x2000, 0, 7, 1), 0)
            self.assertEqual(bus.behind, [(0x185, [7])])
            self.assertEqual(bus.ticked(1000), [])

    def test_values_in_order(self):
        bus = going_bus([TWO, BYTE, FOUR, OTHER])
        bus.set(0x2000, 1, 0x0201, 2)
        bus.set(0x2000, 0, 3, 1)
        bus.set(0x2000, 2, 0xF7060504, 4)
        bus.set(0x2002, 0, 8, 1)
        self.assertEqual(bus.behind, [(0x185, [1, 2, 3, 4, 5, 6, 0xF7, 8])])

    def test_eight_bytes(self):
        bus = going_bus([EIGHT])
        bus.set_long(0x2000, 3, 0xF807060504030201)
        self.assertEqual(bus.behind, [(0x185, [1, 2, 3, 4, 5, 6, 7, 0xF8])])

    def test_the_same_value_is_no_change(self):
        bus = going_bus()
        bus.set(0x2000, 0, 0, 1)
        self.assertEqual(bus.behind, [])
        bus.set(0x2000, 0, 7, 1)
        self.assertEqual(bus.behind, [(0x185, [7])])
        bus.set(0x2000, 0, 7, 1)
        self.assertEqual(bus.behind, [])

    def test_bytes_behind_the_value_are_no_change(self):
        bus = going_bus()
        bus.sent(0x605, [0x2F, 0, 0x20, 0, 7, 0, 0, 0])
        self.assertEqual(len(bus.sent(0x605, [0x2F, 0, 0x20, 0, 7, 1, 1, 1])), 1)
        self.assertEqual(len(bus.sent(0x605, [0x22, 0, 0x20, 0, 7, 2, 2, 2])), 1)

    def test_other_entries_are_no_change(self):
        bus = going_bus()
        bus.set(0x2002, 0, 7, 1)
        self.assertEqual(bus.behind, [])

    def test_entries_that_are_not_counted_are_no_change(self):
        bus = Bus()
        bus.set(0x1A00, 2, 0x20020008, 4)
        bus.going(0, [BYTE])
        bus.work()
        bus.set(0x2002, 0, 7, 1)
        self.assertEqual(bus.behind, [])
        bus.set(0x2000, 0, 1, 1)
        self.assertEqual(bus.behind, [(0x185, [1])])

    def test_an_aborted_set_is_no_change(self):
        bus = going_bus()
        self.assertEqual(bus.set(0x2000, 0, 7, 2), 0x06070012)
        self.assertEqual(bus.behind, [])

    def test_by_a_coming_map(self):
        bus = Bus()
        bus.coming(0, [BYTE])
        bus.going(0, [BYTE])
        bus.work()
        self.assertEqual(bus.sent(0x205, [7]), [(0x185, [7])])
        self.assertEqual(bus.sent(0x205, [7]), [])

    def test_by_a_kept_map_at_the_mark(self):
        bus = Bus()
        bus.coming(0, [BYTE], 0)
        bus.going(0, [BYTE])
        bus.work()
        self.assertEqual(bus.sent(0x205, [7]), [])
        self.assertEqual(bus.sent(0x80), [(0x185, [7])])

    def test_there_and_back_is_a_change(self):
        bus = going_bus(least=10)
        bus.set(0x2000, 0, 7, 1)
        bus.set(0x2000, 0, 8, 1)
        bus.set(0x2000, 0, 7, 1)
        self.assertEqual(bus.behind, [])
        self.assertEqual(bus.ticked(10), [(0x185, [7])])

    def test_every_map_that_has_it_in_order(self):
        bus = Bus()
        for place in (3, 1, 0):
            bus.going(place, [BYTE])
        bus.going(2, [OTHER])
        bus.work()
        bus.set(0x2000, 0, 7, 1)
        self.assertEqual(bus.behind, [(0x185, [7]), (0x285, [7]), (0x485, [7])])

    def test_its_id(self):
        for ident in (0x181, 0x57F, 0x3AB):
            bus = Bus()
            bus.going(1, [BYTE], on=False)
            bus.set(0x1801, 1, ident, 4)
            bus.work()
            bus.set(0x2000, 0, 7, 1)
            self.assertEqual(bus.behind, [(ident, [7])])

    def test_changed_before_work(self):
        for state in (BEFORE_WORK, STOPPED):
            bus = going_bus(work=False)
            bus.set(0x2000, 0, 7, 1)
            self.assertEqual(bus.behind, [])
            bus.to_state(state)
            self.assertEqual(bus.ticked(50), [])
            self.assertEqual(bus.work(), [(0x185, [7])])
            self.assertEqual(bus.ticked(1000), [])

    def test_changed_while_off(self):
        bus = going_bus()
        bus.set(0x1800, 1, OFF + 0x185, 4)
        bus.set(0x2000, 0, 7, 1)
        self.assertEqual(bus.behind, [])
        self.assertEqual(bus.ticked(100), [])
        bus.set(0x1800, 1, 0x185, 4)
        self.assertEqual(bus.behind, [(0x185, [7])])

    def test_changed_before_it_was_mapped(self):
        bus = Bus()
        bus.set(0x2000, 0, 7, 1)
        bus.going(0, [BYTE])
        self.assertEqual(bus.work(), [])
        self.assertEqual(bus.ticked(100), [])

    def test_not_stopped(self):
        bus = going_bus(least=10)
        bus.set(0x2000, 0, 7, 1)
        bus.set(0x2000, 0, 8, 1)
        bus.to_state(STOPPED)
        self.assertEqual(bus.ticked(100), [])


class LeastTime(unittest.TestCase):
    def test_at_once_the_first_time(self):
        bus = going_bus(least=100)
        bus.set(0x2000, 0, 7, 1)
        self.assertEqual(bus.behind, [(0x185, [7])])

    def test_the_millisecond(self):
        for when in (0xFE, 0xFF):
            bus = going_bus(when=when, least=100)
            bus.set(0x2000, 0, 7, 1, 1000)
            bus.set(0x2000, 0, 8, 1, 1010)
            self.assertEqual(bus.behind, [])
            bus.set(0x2000, 0, 9, 1, 1020)
            self.assertEqual(bus.ticked(1099), [])
            self.assertEqual(bus.ticked(1100), [(0x185, [9])])
            self.assertEqual(bus.ticked(1200), [])

    def test_at_the_end_of_any_frame(self):
        bus = going_bus(least=100)
        bus.set(0x2000, 0, 7, 1)
        bus.set(0x2000, 0, 8, 1)
        self.assertEqual(bus.sent(0x7FF, [], 99), [])
        self.assertEqual(bus.sent(0x7FF, [], 100), [(0x185, [8])])

    def test_at_once_when_work_begins_anew(self):
        bus = going_bus(least=100)
        bus.set(0x2000, 0, 7, 1)
        bus.set(0x2000, 0, 8, 1)
        bus.to_state(STOPPED)
        self.assertEqual(bus.work(), [(0x185, [8])])

    def test_no_frame_stays_back_when_it_is_set_to_0(self):
        bus = going_bus(least=100)
        bus.set(0x2000, 0, 7, 1)
        bus.set(0x2000, 0, 8, 1)
        bus.set(0x1800, 3, 0, 2)
        self.assertEqual(bus.behind, [(0x185, [8])])

    def test_a_now_that_is_less(self):
        bus = going_bus(least=100)
        bus.set(0x2000, 0, 7, 1, 1000)
        bus.set(0x2000, 0, 8, 1, 10)
        self.assertEqual(bus.behind, [])
        self.assertEqual(bus.ticked(1099), [])
        self.assertEqual(bus.ticked(1100), [(0x185, [8])])

    def test_great_times(self):
        bus = going_bus(least=0xFFFF)
        bus.set(0x2000, 0, 7, 1, 4294900000)
        bus.set(0x2000, 0, 8, 1, 4294900000)
        self.assertEqual(bus.ticked(4294900000 + 0xFFFE), [])
        self.assertEqual(bus.ticked(4294900000 + 0xFFFF), [(0x185, [8])])


class AtLeastSoOften(unittest.TestCase):
    def test_since_work_began(self):
        for when in (0xFE, 0xFF):
            bus = going_bus(when=when, often=50, now=1000)
            self.assertEqual(bus.ticked(1049), [])
            self.assertEqual(bus.ticked(1050), [(0x185, [0])])

    def test_since_it_was_last_sent(self):
        bus = going_bus(often=50)
        bus.set(0x2000, 0, 7, 1, 30)
        self.assertEqual(bus.behind, [(0x185, [7])])
        self.assertEqual(bus.ticked(50), [])
        self.assertEqual(bus.ticked(79), [])
        self.assertEqual(bus.ticked(80), [(0x185, [7])])
        self.assertEqual(bus.ticked(129), [])
        self.assertEqual(bus.ticked(130), [(0x185, [7])])

    def test_once_however_long(self):
        bus = going_bus(often=50)
        self.assertEqual(bus.ticked(500), [(0x185, [0])])
        self.assertEqual(bus.ticked(549), [])
        self.assertEqual(bus.ticked(550), [(0x185, [0])])

    def test_0_is_never(self):
        bus = going_bus(often=0)
        self.assertEqual(bus.ticked(4294967295), [])

    def test_1_is_each_millisecond(self):
        bus = going_bus(often=1)
        self.assertEqual(bus.ticked(0), [])
        self.assertEqual(bus.ticked(1), [(0x185, [0])])
        self.assertEqual(bus.ticked(1), [])
        self.assertEqual(bus.ticked(2), [(0x185, [0])])

    def test_work_begun_anew(self):
        bus = going_bus(often=50)
        self.assertEqual(bus.ticked(50), [(0x185, [0])])
        bus.to_state(BEFORE_WORK)
        self.assertEqual(bus.ticked(500), [])
        self.assertEqual(bus.work(510), [])
        self.assertEqual(bus.ticked(559), [])
        self.assertEqual(bus.ticked(560), [(0x185, [0])])

    def test_not_sooner_than_the_least_time(self):
        bus = going_bus(least=100, often=50)
        self.assertEqual(bus.ticked(50), [(0x185, [0])])
        self.assertEqual(bus.ticked(100), [])
        self.assertEqual(bus.ticked(149), [])
        self.assertEqual(bus.ticked(150), [(0x185, [0])])

    def test_nothing_mapped_sends_no_bytes(self):
        bus = going_bus(keys=[], often=50)
        self.assertEqual(bus.tick(50), [0])
        self.assertEqual(bus.take_raw(), [0, 0x185] + [0] * 8)

    def test_off(self):
        bus = going_bus(often=50)
        bus.set(0x1800, 1, OFF + 0x185, 4)
        self.assertEqual(bus.ticked(100), [])

    def test_not_at_work(self):
        for state in (BEFORE_WORK, STOPPED):
            bus = going_bus(often=50)
            bus.to_state(state)
            self.assertEqual(bus.ticked(100), [])

    def test_by_a_frame(self):
        bus = going_bus(often=50)
        self.assertEqual(bus.sent(0x7FF, [], 49), [])
        self.assertEqual(bus.sent(0x7FF, [], 50), [(0x185, [0])])


class EachPlace(unittest.TestCase):
    def test_each_has_its_own_times(self):
        for place in range(4):
            bus = Bus()
            for other in range(4):
                bus.going(other, [BYTE], least=100 if other == place else 0)
            bus.work()
            frames = [(0x185 + 0x100 * other, [8]) for other in range(4)]
            bus.set(0x2000, 0, 7, 1)
            self.assertEqual(len(bus.behind), 4)
            bus.set(0x2000, 0, 8, 1)
            self.assertEqual(bus.behind, [frame for frame in frames if frame != frames[place]])
            self.assertEqual(bus.ticked(99), [])
            self.assertEqual(bus.ticked(100), [frames[place]])

    def test_each_is_sent_so_often_by_itself(self):
        bus = Bus()
        for place in range(4):
            bus.going(place, [BYTE], often=10 * (place + 1))
        bus.work()
        for now, places in ((9, ()), (10, (0,)), (19, ()), (20, (0, 1)), (30, (0, 2)), (40, (0, 1, 3))):
            self.assertEqual(bus.ticked(now), [(0x185 + 0x100 * place, [0]) for place in places])

    def test_each_has_its_own_when(self):
        bus = Bus()
        for place, when in enumerate((0xFF, 1, 0, 2)):
            bus.going(place, [BYTE], when)
        bus.work()
        bus.set(0x2000, 0, 7, 1)
        self.assertEqual(bus.behind, [(0x185, [7])])
        self.assertEqual(bus.sent(0x80), [(0x285, [7]), (0x385, [7])])
        self.assertEqual(bus.sent(0x80), [(0x285, [7]), (0x485, [7])])


class WhenMarked(unittest.TestCase):
    def test_0_sent_if_changed(self):
        bus = going_bus(when=0)
        self.assertEqual(bus.sent(0x80), [])
        bus.set(0x2000, 0, 7, 1)
        self.assertEqual(bus.behind, [])
        self.assertEqual(bus.ticked(1000), [])
        self.assertEqual(bus.sent(0x80), [(0x185, [7])])
        self.assertEqual(bus.sent(0x80), [])
        bus.set(0x2000, 0, 7, 1)
        self.assertEqual(bus.sent(0x80), [])

    def test_0_changed_before_work(self):
        bus = going_bus(when=0, work=False)
        bus.set(0x2000, 0, 7, 1)
        self.assertEqual(bus.work(), [])
        self.assertEqual(bus.sent(0x80), [(0x185, [7])])

    def test_each_so_manieth(self):
        for when in (1, 2, 3, 7):
            bus = going_bus(when=when)
            for count in range(1, 22):
                with self.subTest(when=when, count=count):
                    self.assertEqual(bus.sent(0x80), [(0x185, [0])] if count % when == 0 else [])

    def test_f0(self):
        calls = 0xF0
        bus = going_bus(when=0xF0)
        for count in range(calls - 1):
            bus.calls.extend([1, 0x80, 0, 0])
        self.assertIsNone(bus.take())
        self.assertEqual(bus.sent(0x80), [(0x185, [0])])
        self.assertEqual(bus.sent(0x80), [])

    def test_ef_is_not_f0(self):
        bus = going_bus(when=0xEF)
        for count in range(0xEE):
            bus.calls.extend([1, 0x80, 0, 0])
        self.assertIsNone(bus.take())
        self.assertEqual(bus.sent(0x80), [(0x185, [0])])

    def test_counted_from_when_work_began(self):
        bus = going_bus(when=3)
        bus.sent(0x80)
        bus.sent(0x80)
        for state in (STOPPED, BEFORE_WORK):
            bus.to_state(state)
            self.assertEqual(bus.sent(0x80), [])
        bus.to_state(AT_WORK)
        self.assertEqual([bus.sent(0x80) for count in range(3)], [[], [], [(0x185, [0])]])

    def test_counted_whatever_when_is(self):
        bus = going_bus(when=0xFF)
        bus.sent(0x80)
        bus.sent(0x80)
        bus.set(0x1800, 2, 3, 1)
        self.assertEqual(bus.sent(0x80), [(0x185, [0])])

    def test_values_of_now(self):
        bus = going_bus(when=1)
        bus.set(0x2000, 0, 7, 1)
        self.assertEqual(bus.behind, [])
        self.assertEqual(bus.sent(0x80), [(0x185, [7])])
        self.assertEqual(bus.sent(0x80), [(0x185, [7])])

    def test_the_times_say_nothing(self):
        for when in (0, 1, 0xF0):
            bus = going_bus(when=when, least=100, often=50)
            self.assertEqual(bus.ticked(1000), [])
        bus = going_bus(when=1, least=100)
        self.assertEqual(bus.sent(0x80), [(0x185, [0])])
        self.assertEqual(bus.sent(0x80), [(0x185, [0])])
        bus = going_bus(when=0, least=100)
        for value in (7, 8):
            bus.set(0x2000, 0, value, 1)
            self.assertEqual(bus.sent(0x80), [(0x185, [value])])

    def test_fe_and_ff_are_not_for_marks(self):
        for when in (0xFE, 0xFF):
            bus = going_bus(when=when, least=100)
            bus.set(0x2000, 0, 7, 1)
            bus.set(0x2000, 0, 8, 1)
            self.assertEqual([bus.sent(0x80) for count in range(3)], [[], [], []])

    def test_fe_and_ff_are_no_number_of_marks(self):
        for when in (0xFE, 0xFF):
            bus = going_bus(when=when)
            for count in range(0xFF):
                bus.calls.extend([1, 0x80, 0, 0])
            self.assertIsNone(bus.take())

    def test_only_at_work_and_on(self):
        for state in (BEFORE_WORK, STOPPED):
            bus = going_bus(when=1)
            bus.to_state(state)
            self.assertEqual(bus.sent(0x80), [])
        bus = going_bus(when=1)
        bus.set(0x1800, 1, OFF + 0x185, 4)
        self.assertEqual(bus.sent(0x80), [])

    def test_in_order(self):
        bus = Bus()
        for place in (3, 2, 0, 1):
            bus.going(place, [BYTE], 1 if place % 2 else 0)
        bus.work()
        bus.set(0x2000, 0, 7, 1)
        self.assertEqual(bus.sent(0x80), [(0x185, [7]), (0x285, [7]), (0x385, [7]), (0x485, [7])])

    def test_what_a_mark_sends_counts_as_sent(self):
        bus = going_bus(when=1, least=100)
        bus.set(0x2000, 0, 7, 1)
        bus.sent(0x80, [], 1000)
        bus.set(0x1800, 2, 0xFF, 1)
        self.assertEqual(bus.behind, [])
        bus.set(0x2000, 0, 8, 1)
        self.assertEqual(bus.behind, [])
        self.assertEqual(bus.ticked(1099), [])
        self.assertEqual(bus.ticked(1100), [(0x185, [8])])

    def test_changed_while_it_went_by_marks(self):
        bus = going_bus(when=0xF0)
        bus.set(0x2000, 0, 7, 1)
        bus.set(0x1800, 2, 0xFE, 1)
        self.assertEqual(bus.behind, [(0x185, [7])])


if __name__ == "__main__":
    unittest.main()
