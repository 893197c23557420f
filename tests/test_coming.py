"""Promise 2: coming maps and faults, at once and at the mark."""

import unittest

from helper import AT_WORK, BEFORE_WORK, BYTE, Bus, EIGHT, FOUR, OFF, OTHER, STOPPED, TWO, little

FAULT = (0x85, [0x10, 0x82, 0x11, 0, 0, 0, 0, 0])


def coming_bus(keys, when=0xFF, place=0):
    bus = Bus()
    bus.coming(place, keys, when)
    bus.work()
    return bus


class AtOnce(unittest.TestCase):
    def test_bytes_in_order(self):
        for when in (0xFE, 0xFF):
            bus = coming_bus([TWO, BYTE, FOUR, OTHER], when)
            self.assertEqual(bus.sent(0x205, [1, 2, 3, 4, 5, 6, 7, 8]), [])
            self.assertEqual(bus.ask(0x2000, 1), [1, 2])
            self.assertEqual(bus.ask(0x2000, 0), [3])
            self.assertEqual(bus.ask(0x2000, 2), [4, 5, 6, 7])
            self.assertEqual(bus.ask(0x2002, 0), [8])

    def test_eight_bytes_in_one(self):
        bus = coming_bus([EIGHT])
        bus.sent(0x205, [1, 2, 3, 4, 5, 6, 7, 0xF8])
        self.assertEqual(bus.ask(0x2000, 3), [1, 2, 3, 4, 5, 6, 7, 0xF8])

    def test_each_place(self):
        for place in range(4):
            bus = coming_bus([BYTE], place=place)
            for other in range(4):
                if other != place:
                    self.assertEqual(bus.sent(0x205 + 0x100 * other, [9]), [])
            self.assertEqual(bus.ask(0x2000, 0), [0])
            bus.sent(0x205 + 0x100 * place, [7])
            self.assertEqual(bus.ask(0x2000, 0), [7])

    def test_only_what_is_counted(self):
        bus = Bus()
        bus.set(0x1600, 1, 0x20000008, 4)
        bus.set(0x1600, 2, 0x20020008, 4)
        bus.set(0x1600, 0, 1, 1)
        bus.set(0x1400, 1, 0x205, 4)
        bus.work()
        self.assertEqual(bus.sent(0x205, [1, 2]), [])
        self.assertEqual((bus.ask(0x2000, 0), bus.ask(0x2002, 0)), ([1], [0]))

    def test_more_bytes_than_mapped(self):
        bus = coming_bus([BYTE])
        self.assertEqual(bus.sent(0x205, [1, 2, 3, 4, 5, 6, 7, 8]), [])
        self.assertEqual(bus.ask(0x2000, 0), [1])

    def test_nothing_mapped(self):
        bus = coming_bus([])
        self.assertEqual(bus.sent(0x205, []), [])
        self.assertEqual(bus.sent(0x205, [1]), [])

    def test_the_same_entry_twice(self):
        bus = coming_bus([BYTE, BYTE])
        bus.sent(0x205, [1, 2])
        self.assertEqual(bus.ask(0x2000, 0), [2])

    def test_only_at_work(self):
        for state in (BEFORE_WORK, STOPPED):
            bus = Bus()
            bus.coming(0, [TWO])
            bus.to_state(state)
            self.assertEqual(bus.sent(0x205, [9, 9]), [])
            self.assertEqual(bus.sent(0x205, [9]), [])
            bus.to_state(BEFORE_WORK)
            self.assertEqual(bus.ask(0x2000, 1), [0, 0])
            self.assertEqual(bus.ask(0x1001, 0), [0])

    def test_off(self):
        bus = coming_bus([BYTE])
        bus.set(0x1400, 1, OFF + 0x205, 4)
        self.assertEqual(bus.sent(0x205, [9]), [])
        self.assertEqual(bus.sent(0x205, []), [])
        self.assertEqual(bus.ask(0x2000, 0), [0])

    def test_written_though_not_read(self):
        bus = coming_bus([(0x2001, 1, 1)])
        self.assertEqual(bus.sent(0x205, [9]), [])


class Faults(unittest.TestCase):
    def test_fewer_bytes(self):
        for when in (0, 1, 0xF0, 0xFE, 0xFF):
            with self.subTest(when=when):
                bus = coming_bus([FOUR, TWO], when)
                self.assertEqual(bus.sent(0x205, [9] * 5), [FAULT])
                self.assertEqual(bus.ask(0x1001, 0), [0x11])
                bus.sent(0x80)
                self.assertEqual(bus.ask(0x2000, 2), [0] * 4)
                self.assertEqual(bus.sent(0x205, [9] * 6), [])

    def test_every_time(self):
        bus = coming_bus([BYTE])
        self.assertEqual(bus.sent(0x205), [FAULT])
        self.assertEqual(bus.sent(0x205), [FAULT])

    def test_the_fault_id(self):
        for ident in (0, 1, 0x7FF, 0x123):
            bus = coming_bus([BYTE])
            bus.set(0x1014, 0, ident, 4)
            self.assertEqual(bus.sent(0x205), [(ident, FAULT[1])])

    def test_the_fault_off(self):
        for ident in (0x85, 0, 0x7FF):
            bus = coming_bus([BYTE])
            bus.set(0x1014, 0, OFF + ident, 4)
            self.assertEqual(bus.sent(0x205), [])
            self.assertEqual(bus.ask(0x1001, 0), [0x11])

    def test_the_node_in_the_first_fault_id(self):
        bus = Bus(127)
        bus.coming(0, [BYTE])
        bus.work()
        self.assertEqual(bus.sent(0x27F), [(0xFF, FAULT[1])])


class AtTheMark(unittest.TestCase):
    def test_kept_till_the_mark(self):
        for when in (0, 1, 5, 0xEF, 0xF0):
            bus = coming_bus([TWO], when)
            self.assertEqual(bus.sent(0x205, [1, 2]), [])
            self.assertEqual(bus.ask(0x2000, 1), [0, 0])
            bus.ticked(1000)
            self.assertEqual(bus.ask(0x2000, 1), [0, 0])
            self.assertEqual(bus.sent(0x80), [])
            self.assertEqual(bus.ask(0x2000, 1), [1, 2])

    def test_the_mark_has_any_number_of_bytes(self):
        for count in range(9):
            bus = coming_bus([BYTE], 0)
            bus.sent(0x205, [7])
            bus.sent(0x80, [9] * count)
            self.assertEqual(bus.ask(0x2000, 0), [7])

    def test_taken_once(self):
        bus = coming_bus([BYTE], 0)
        bus.sent(0x205, [7])
        bus.sent(0x80)
        bus.set(0x2000, 0, 1, 1)
        bus.sent(0x80)
        self.assertEqual(bus.ask(0x2000, 0), [1])

    def test_a_later_one_instead(self):
        bus = coming_bus([BYTE], 0)
        bus.sent(0x205, [7])
        bus.sent(0x205, [8])
        bus.sent(0x80)
        self.assertEqual(bus.ask(0x2000, 0), [8])

    def test_one_with_too_few_bytes_leaves_what_is_kept(self):
        bus = coming_bus([BYTE], 0)
        bus.sent(0x205, [7])
        self.assertEqual(bus.sent(0x205), [FAULT])
        bus.sent(0x80)
        self.assertEqual(bus.ask(0x2000, 0), [7])

    def test_in_order(self):
        bus = Bus()
        for place in range(4):
            bus.coming(place, [BYTE], 0)
        bus.work()
        for place in (3, 1, 2, 0):
            bus.sent(0x205 + 0x100 * place, [place + 1])
        bus.sent(0x80)
        self.assertEqual(bus.ask(0x2000, 0), [4])

    def test_more_bytes_than_mapped(self):
        bus = coming_bus([BYTE], 0)
        bus.sent(0x205, [7, 8, 9])
        bus.sent(0x80)
        self.assertEqual(bus.ask(0x2000, 0), [7])

    def test_lost_where_more_is_mapped_by_then(self):
        for keys, is_taken in (([BYTE], True), ([BYTE, OTHER], True), ([TWO, OTHER], False), ([FOUR], False)):
            with self.subTest(keys=keys):
                bus = coming_bus([TWO], 0)
                bus.sent(0x205, [7, 8])
                bus.set(0x1400, 1, OFF + 0x205, 4)
                bus.set(0x1600, 0, 0, 1)
                bus.coming(0, keys, 0)
                self.assertEqual(bus.sent(0x80), [])
                first = bus.ask(keys[0][0], keys[0][1])
                self.assertEqual(first, [7] if is_taken else [0] * keys[0][2])
                self.assertEqual(bus.ask(0x1001, 0), [0])
                # Lost for good: fewer mapped again doesn't bring it back.
                bus.set(0x1400, 1, OFF + 0x205, 4)
                bus.set(0x1600, 0, 0, 1)
                bus.coming(0, [OTHER], 0)
                bus.set(0x2002, 0, 1, 1)
                bus.sent(0x80)
                self.assertEqual(bus.ask(0x2002, 0), [1])

    def test_taken_though_off_or_at_once_by_then(self):
        for sub, value, size in ((1, OFF + 0x205, 4), (2, 0xFF, 1)):
            bus = coming_bus([BYTE], 0)
            bus.sent(0x205, [7])
            bus.set(0x1400, sub, value, size)
            self.assertEqual(bus.ask(0x2000, 0), [0])
            bus.sent(0x80)
            self.assertEqual(bus.ask(0x2000, 0), [7])

    def test_kept_while_stopped(self):
        bus = coming_bus([BYTE], 0)
        bus.sent(0x205, [7])
        for state in (STOPPED, BEFORE_WORK):
            bus.to_state(state)
            bus.sent(0x80)
        self.assertEqual(bus.ask(0x2000, 0), [0])
        bus.to_state(AT_WORK)
        bus.sent(0x80)
        self.assertEqual(bus.ask(0x2000, 0), [7])

    def test_another_mark(self):
        bus = coming_bus([BYTE], 0)
        bus.set(0x1005, 0, 0x7FF, 4)
        bus.sent(0x205, [7])
        bus.sent(0x80)
        self.assertEqual(bus.ask(0x2000, 0), [0])
        bus.sent(0x7FF)
        self.assertEqual(bus.ask(0x2000, 0), [7])

    def test_taken_before_going_maps_are_sent(self):
        bus = Bus()
        bus.coming(3, [BYTE], 0)
        bus.going(0, [BYTE], 0)
        bus.work()
        bus.sent(0x505, [7])
        self.assertEqual(bus.sent(0x80), [(0x185, [7])])
        self.assertEqual(bus.sent(0x80), [])


class Row(unittest.TestCase):
    def test_values_are_put_lowest_first(self):
        bus = coming_bus([FOUR])
        bus.sent(0x205, little(0x12345678, 4))
        self.assertEqual(bus.ask(0x2000, 2), [0x78, 0x56, 0x34, 0x12])


if __name__ == "__main__":
    unittest.main()
