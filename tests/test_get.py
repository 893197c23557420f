"""Promise 4: cn_get, of any entry, and where there's none."""

import unittest

from helper import AT_WORK, BYTE, Bus, EIGHT, FOUR, LEAST, MOST, NODE, OFF, STATES, STOPPED, TABLE, TWO
from helper import RIGHTS, besides, line, little, mapping, rights_bus, table_of

SIZES = (
    (0x2000, 0, 1), (0x2000, 1, 2), (0x2000, 2, 4), (0x2000, 3, 8), (0x2001, 0, 1), (0x2001, 1, 1), (0x2001, 2, 1),
    (0x2001, 3, 1), (0x2002, 0, 1), (0x2003, 5, 2), (0x9FFF, 0xFF, 8),
)


class There(unittest.TestCase):
    def test_the_table_at_first(self):
        bus = Bus()
        for index, sub, size in SIZES:
            with self.subTest(index=hex(index), sub=sub):
                self.assertEqual(bus.call(4, index, sub), [size] + [0] * 8)

    def test_each_size_with_zeros_behind(self):
        bus = Bus()
        bus.set(0x2000, 0, 0xF1, 1)
        bus.set(0x2000, 1, 0xF2E1, 2)
        bus.set(0x2000, 2, 0xF4D3E2C1, 4)
        bus.set_long(0x2000, 3, 0xF8E7D6C5B4A39281)
        self.assertEqual(bus.call(4, 0x2000, 0), [1, 0xF1, 0, 0, 0, 0, 0, 0, 0])
        self.assertEqual(bus.call(4, 0x2000, 1), [2, 0xE1, 0xF2, 0, 0, 0, 0, 0, 0])
        self.assertEqual(bus.call(4, 0x2000, 2), [4, 0xC1, 0xE2, 0xD3, 0xF4, 0, 0, 0, 0])
        self.assertEqual(bus.call(4, 0x2000, 3), [8, 0x81, 0x92, 0xA3, 0xB4, 0xC5, 0xD6, 0xE7, 0xF8])

    def test_greatest_values(self):
        bus = Bus()
        for index, sub, size in SIZES:
            bus.put(index, sub, [0xFF] * size)
            self.assertEqual(bus.call(4, index, sub), [size] + [0xFF] * size + [0] * (8 - size))

    def test_whatever_may_be_done_over_the_bus(self):
        for size in (1, 2, 4, 8):
            bus = rights_bus(size)
            for at, held in enumerate(RIGHTS):
                with self.subTest(size=size, rights=held):
                    self.assertEqual(bus.get(0x2000, at), [0] * size)

    def test_besides_at_first(self):
        for node in (1, 2, NODE, 64, 127):
            for table in ([], TABLE):
                bus = Bus(node, table)
                for index, sub, size, rights, value in besides(node):
                    with self.subTest(node=node, index=hex(index), sub=sub):
                        self.assertEqual(bus.call(4, index, sub), [size] + little(value, 8))

    def test_all_of_the_longest_table(self):
        bus = Bus(table=table_of(*[line(0x2000 + at // 2, 7 * (at % 2), 1 << (at % 4), "") for at in range(64)]))
        for at in range(64):
            self.assertEqual(bus.put(0x2000 + at // 2, 7 * (at % 2), [at + 1] * (1 << (at % 4))), 0)
        for at in range(64):
            self.assertEqual(bus.get(0x2000 + at // 2, 7 * (at % 2)), [at + 1] * (1 << (at % 4)))

    def test_first_and_last_of_the_table(self):
        bus = Bus(table=table_of(line(0x2000, 0, 2, ""), line(0x9FFF, 255, 4, "")))
        self.assertEqual(bus.get(0x2000, 0), [0, 0])
        self.assertEqual(bus.get(0x9FFF, 255), [0, 0, 0, 0])


class NotThere(unittest.TestCase):
    def none(self, *pairs):
        bus = Bus()
        for index, sub in pairs:
            with self.subTest(index=index, sub=sub):
                self.assertEqual(bus.call(4, index, sub), [-1])

    def test_an_index_without_that_sub(self):
        self.none((0x2000, 4), (0x2000, 255), (0x2002, 1), (0x2003, 0), (0x2003, 4), (0x2003, 6), (0x9FFF, 0),
                  (0x9FFF, 0xFE), (0x1000, 1), (0x1001, 1), (0x1005, 255), (0x1016, 3), (0x1017, 1), (0x1400, 3),
                  (0x1600, 9), (0x1800, 4), (0x1800, 6), (0x1A03, 9))

    def test_no_such_index(self):
        self.none((0, 0), (1, 0), (0xFFF, 0), (0x1002, 0), (0x1015, 0), (0x1018, 0), (0x1404, 0), (0x1404, 1),
                  (0x1604, 0), (0x1804, 0), (0x1A04, 0), (0x1FFF, 0), (0x2004, 0), (0x9FFE, 0xFF), (0xA000, 0),
                  (0xFFFF, 0), (0xFFFF, 255))

    def test_no_sub_beside_those_told(self):
        bus = Bus()
        there = {(index, sub) for index, sub, size, rights, value in besides(NODE)}
        for index in (0x1016, 0x1400, 0x1603, 0x1801, 0x1A02):
            for sub in range(-2, 20):
                with self.subTest(index=hex(index), sub=sub):
                    self.assertEqual(bus.get(index, sub) is not None, (index, sub) in there)

    def test_the_table_alone_is_the_table_s(self):
        bus = Bus(table=[])
        for index, sub, size in SIZES:
            self.assertEqual(bus.call(4, index, sub), [-1])

    def test_beyond_the_edges(self):
        ends = (LEAST, LEAST + 1, -65536, -256, -1, 65536, MOST - 1, MOST)
        self.none(*[(index, sub) for index in ends for sub in ends + (0, 1, 255)])
        self.none(*[(index, sub) for index in (0x1000, 0x1001, 0x2000, 0x9FFF) for sub in ends])

    def test_index_and_sub_that_together_come_out_as_another_s(self):
        self.none((0x1FFF, 0x100), (0x1FFF, 0x101), (0x2001, -0x100), (0x2001, -0xFF), (0, 0x200000), (0, 0x100100),
                  (-1, 0x200100), (0x2004, 5 - 0x100), (0x9FFE, 0x1FF), (0xA000, -1), (0x1000, 0x100), (0x1002, -0x100))
        # The same at the very ends: 802000.-80000000 is 2000.0, and -7F6000.7FFFFFFF is 9FFF.FF.
        self.none((0x802000, LEAST), (-0x7F6000, MOST))

    def test_what_would_come_out_as_another_s_if_cut(self):
        self.none((0x12000, 0), (0x2000 - 0x10000, 0), (0x2000 + 0x1000000, 0), (0x2000 - 0x1000000, 0),
                  (0x2000, 0x100), (0x2000, -0x100), (0x2000, 0x10000), (0x2000, 0x101), (0x2000, -0xFF),
                  (0x9FFF, -1), (0x11001, 0), (0x1001, 256), (LEAST + 0x2000, 0), (LEAST + 0x1001, 0))


class Value(unittest.TestCase):
    def test_set_over_the_bus(self):
        bus = Bus()
        bus.set(0x2000, 2, 0x04030201, 4)
        self.assertEqual(bus.get(0x2000, 2), [1, 2, 3, 4])
        bus.set(0x2001, 1, 9, 1)
        self.assertEqual(bus.get(0x2001, 1), [9])
        bus.set(0x2000, 2, 5, 4)
        self.assertEqual(bus.get(0x2000, 2), [5, 0, 0, 0])
        self.assertEqual(bus.get(0x2000, 1), [0, 0])

    def test_set_in_pieces_from_the_last_on(self):
        bus = Bus()
        bus.request(0x20, 0, 0x20, 3)
        bus.request(0x00, 1, 2, 3, 4, 5, 6, 7)
        self.assertEqual(bus.get(0x2000, 3), [0] * 8)
        bus.request(0x1D, 8)
        self.assertEqual(bus.get(0x2000, 3), [1, 2, 3, 4, 5, 6, 7, 8])

    def test_aborted(self):
        bus = Bus()
        self.assertNotEqual(bus.set(0x2001, 0, 9, 1), 0)
        self.assertNotEqual(bus.set(0x2000, 0, 9, 2), 0)
        self.assertNotEqual(bus.set(0x1005, 0, 0x800, 4), 0)
        self.assertEqual((bus.get(0x2001, 0), bus.get(0x2000, 0)), ([0], [0]))
        self.assertEqual(bus.get(0x1005, 0), [0x80, 0, 0, 0])

    def test_besides_set_over_the_bus(self):
        bus = Bus()
        for index, sub, value, size in (
            (0x1005, 0, 0x7FF, 4), (0x1014, 0, OFF + 0x7FF, 4), (0x1016, 1, 0x7FFFFF, 4), (0x1016, 2, 0x10001, 4),
            (0x1017, 0, 0xFFFE, 2), (0x1402, 1, OFF + 0x181, 4), (0x1402, 2, 0xF0, 1), (0x1803, 3, 0x1234, 2),
            (0x1803, 5, 0x4321, 2), (0x1600, 1, mapping(*FOUR), 4), (0x1600, 0, 1, 1), (0x1A03, 8, mapping(*TWO), 4),
            (0x1400, 1, 0x57F, 4),
        ):
            with self.subTest(index=hex(index), sub=sub):
                self.assertEqual(bus.set(index, sub, value, size), 0)
                self.assertEqual(bus.get(index, sub), little(value, size))

    def test_by_a_coming_map(self):
        bus = Bus()
        bus.coming(0, [TWO, BYTE, FOUR])
        bus.coming(1, [EIGHT], 0)
        bus.work()
        bus.frame(0x205, [1, 2, 3, 4, 5, 6, 7])
        self.assertEqual(bus.get(0x2000, 1), [1, 2])
        self.assertEqual(bus.get(0x2000, 0), [3])
        self.assertEqual(bus.get(0x2000, 2), [4, 5, 6, 7])
        bus.frame(0x305, [8, 7, 6, 5, 4, 3, 2, 1])
        self.assertEqual(bus.get(0x2000, 3), [0] * 8)
        bus.frame(0x80)
        self.assertEqual(bus.get(0x2000, 3), [8, 7, 6, 5, 4, 3, 2, 1])

    def test_by_cn_set(self):
        bus = Bus()
        bus.put(0x2001, 0, [9])
        self.assertEqual(bus.get(0x2001, 0), [9])

    def test_after_81_and_82(self):
        for command, left in ((0x81, 0), (0x82, 9)):
            with self.subTest(command=command):
                bus = Bus()
                bus.set(0x2000, 0, 9, 1)
                bus.put(0x2001, 3, [9])
                bus.put(0x9FFF, 0xFF, [9] * 8)
                bus.set(0x1017, 0, 9, 2)
                bus.going(1, [BYTE], 9, 9, 9)
                bus.fault(0x1234, 2)
                bus.frame(0, [command, 0])
                self.assertEqual((bus.get(0x2000, 0), bus.get(0x2001, 3)), ([left], [left]))
                self.assertEqual(bus.get(0x9FFF, 0xFF), [left] * 8)
                for index, sub, size, rights, value in besides(NODE):
                    self.assertEqual(bus.get(index, sub), little(value, size), (hex(index), sub))

    def test_in_each_state(self):
        for state in STATES:
            bus = Bus()
            bus.set(0x2000, 0, 9, 1)
            bus.to_state(state)
            self.assertEqual((bus.get(0x2000, 0), bus.get(0x1001, 0), bus.get(0x2000, 9)), ([9], [0], None))


class NothingElse(unittest.TestCase):
    def test_nothing_is_sent_or_ended(self):
        bus = Bus()
        bus.request(0x20, 0, 0x20, 0)
        for index, sub in ((0x2000, 0), (0x2000, 9), (0x1017, 0), (-1, -1)):
            bus.get(index, sub)
        self.assertEqual(bus.take_all(), [])
        self.assertEqual(bus.request(0x0D, 7), [0x20] + [0] * 7)
        self.assertEqual(bus.get(0x2000, 0), [7])

    def test_what_an_ask_gives_in_pieces_stays(self):
        bus = Bus()
        bus.set_long(0x2000, 3, 0x0807060504030201)
        bus.request(0x40, 0, 0x20, 3)
        self.assertEqual(bus.request(0x60), [0, 1, 2, 3, 4, 5, 6, 7])
        bus.get(0x2000, 3)
        self.assertEqual(bus.request(0x70), [0x1D, 8, 0, 0, 0, 0, 0, 0])

    def test_all_that_is_there_and_how_it_is_told_over_the_bus(self):
        bus = Bus()
        bus.to_state(AT_WORK)
        for index, sub, size, rights, value in besides(NODE):
            self.assertEqual(bus.get(index, sub), bus.ask(index, sub))
        bus.to_state(STOPPED)
        self.assertEqual(bus.get(0x1000, 0), [0] * 4)


if __name__ == "__main__":
    unittest.main()
