"""Promise 1: cn_begin, its refusals, the beginning frame, and what the dictionary has at first."""

import unittest

from helper import Bus, NODE, begin, begin_calls, besides, line, little, split, table_of
from framenode.bus import answers


def good(index=0x2000, sub=0, size=1, rights="rwm"):
    return line(index, sub, size, rights)


class Numbers(unittest.TestCase):
    def test_nodes_at_the_edges(self):
        for node in (1, 2, 64, 126, 127):
            with self.subTest(node=node):
                self.assertEqual(begin(node, []), [[0]])

    def test_nodes_beyond_the_edges(self):
        for node in (0, 128, -1, 255, 256, -2147483648, 2147483647):
            with self.subTest(node=node):
                self.assertEqual(begin(node, []), [[-2]])
                self.assertEqual(begin(node, good()), [[-2]])

    def test_how_many_lines(self):
        lines = [good(0x2000 + at) for at in range(66)]
        for count, answer in ((0, 0), (1, 0), (63, 0), (64, 0), (65, -2), (66, -2)):
            with self.subTest(count=count):
                self.assertEqual(begin(NODE, table_of(*lines[:count])), [[answer]])

    def test_sixty_four_lines_are_all_there(self):
        bus = Bus(table=table_of(*[good(0x2000 + at, at) for at in range(64)]))
        for at in range(64):
            self.assertEqual(bus.ask(0x2000 + at, at), [0])


class Lines(unittest.TestCase):
    def answer(self, *lines):
        return begin(NODE, table_of(*lines))[0][0]

    def test_indices(self):
        for index, answer in (
            (0x2000, 0), (0x2001, 0), (0x9FFE, 0), (0x9FFF, 0),
            (0x1FFF, -2), (0xA000, -2), (0, -2), (0xFFFF, -2), (0x1000, -2), (0x0020, -2),
        ):
            with self.subTest(index=hex(index)):
                self.assertEqual(self.answer(good(index)), answer)

    def test_subs(self):
        for sub in (0, 1, 127, 128, 254, 255):
            self.assertEqual(self.answer(good(sub=sub)), 0)

    def test_sizes(self):
        for size in range(256):
            with self.subTest(size=size):
                self.assertEqual(self.answer(good(size=size)), 0 if size in (1, 2, 4, 8) else -2)

    def test_rights_are_0_or_1(self):
        for place in (4, 5, 6):
            for byte, answer in ((0, 0), (1, 0), (2, -2), (3, -2), (128, -2), (255, -2)):
                with self.subTest(place=place, byte=byte):
                    one = good(rights="")
                    one[place] = byte
                    self.assertEqual(self.answer(one), answer)

    def test_the_last_byte_is_0(self):
        for byte in (1, 2, 255):
            self.assertEqual(self.answer(line(0x2000, 0, 1, "rwm", byte)), -2)

    def test_a_wrong_line_behind_right_ones(self):
        self.assertEqual(self.answer(good(0x2000), good(0x2001), good(0x2002, size=3)), -2)
        self.assertEqual(self.answer(good(0x2000, size=3), good(0x2001), good(0x2002)), -2)

    def test_rising_by_index_then_sub(self):
        rising = (
            ((0x2000, 0), (0x2000, 1)), ((0x2000, 254), (0x2000, 255)), ((0x2000, 255), (0x2001, 0)),
            ((0x20FF, 0), (0x2100, 0)), ((0x2001, 5), (0x2002, 4)), ((0x2000, 0), (0x9FFF, 0)),
        )
        for first, second in rising:
            with self.subTest(first=first, second=second):
                self.assertEqual(self.answer(good(*first), good(*second)), 0)
                self.assertEqual(self.answer(good(*second), good(*first)), -2)
                self.assertEqual(self.answer(good(*first), good(*first)), -2)

    def test_the_third_line_falls(self):
        self.assertEqual(self.answer(good(0x2000), good(0x2005), good(0x2004)), -2)


class First(unittest.TestCase):
    def test_the_beginning_frame(self):
        for node in (1, 5, 127):
            calls = begin_calls(node, []) + [3, 3]
            self.assertEqual(split(answers(calls)), [[0], [1, 0x700 + node] + [0] * 8, [-1]])

    def test_before_work(self):
        bus = Bus()
        bus.set(0x1017, 0, 10, 2)
        self.assertEqual(bus.ticked(10), [(0x705, [0x7F])])

    def test_now_is_0(self):
        bus = Bus()
        bus.set(0x1017, 0, 1, 2)
        self.assertEqual(bus.ticked(0), [])
        self.assertEqual(bus.ticked(1), [(0x705, [0x7F])])

    def test_the_table_is_0(self):
        bus = Bus()
        self.assertEqual(bus.ask(0x2000, 0), [0])
        self.assertEqual(bus.ask(0x2000, 1), [0] * 2)
        self.assertEqual(bus.ask(0x2000, 2), [0] * 4)
        self.assertEqual(bus.ask(0x2000, 3), [0] * 8)
        self.assertEqual(bus.ask(0x9FFF, 0xFF), [0] * 8)

    def test_what_stands_besides_has_at_first(self):
        for node in (1, 5, 127):
            bus = Bus(node, [])
            for index, sub, size, rights, value in besides(node):
                with self.subTest(node=node, index=hex(index), sub=sub):
                    self.assertEqual(bus.ask(index, sub), little(value, size))

    def test_what_may_be_written(self):
        bus = Bus()
        for index, sub, size, rights, value in besides(NODE):
            with self.subTest(index=hex(index), sub=sub):
                code = bus.set(index, sub, value, size)
                if rights == "r":
                    self.assertEqual(code, 0x06010002)
                else:
                    self.assertNotEqual(code, 0x06010002)

    def test_no_other_subs(self):
        bus = Bus()
        there = {(index, sub) for index, sub, size, rights, value in besides(NODE)}
        for index in sorted({index for index, sub in there}):
            for sub in list(range(12)) + [255]:
                if (index, sub) not in there:
                    with self.subTest(index=hex(index), sub=sub):
                        self.assertEqual(bus.ask(index, sub), 0x06090011)

    def test_no_other_indices(self):
        bus = Bus()
        for index in (0, 0xFFF, 0x1002, 0x1004, 0x1006, 0x1013, 0x1015, 0x1018, 0x13FF, 0x1404, 0x15FF, 0x1604,
                      0x17FF, 0x1804, 0x19FF, 0x1A04, 0x1FFF, 0x2004, 0x9FFE, 0xA000, 0xFFFF):
            with self.subTest(index=hex(index)):
                self.assertEqual(bus.ask(index, 0), 0x06020000)

    def test_nothing_besides_the_table_is_mapped(self):
        bus = Bus()
        for index, sub, size, rights, value in besides(NODE):
            with self.subTest(index=hex(index), sub=sub):
                place = (index << 16) | (sub << 8) | (size * 8)
                self.assertEqual(bus.set(0x1600, 1, place, 4), 0x06040041)
                self.assertEqual(bus.set(0x1A00, 1, place, 4), 0x06040041)


if __name__ == "__main__":
    unittest.main()
