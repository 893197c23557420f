"""Promise 2: the values that aren't taken over the bus, each beside one that is."""

import unittest

from helper import Bus, OFF, line, little, mapping, table_of

WRONG = 0x06090030
NOT_NOW = 0x08000022
NO_MAP = 0x06040041
TOO_MUCH = 0x06040042


class Taken(unittest.TestCase):
    def check(self, bus, index, sub, size, rows):
        """Each value with the code it's aborted by; what isn't taken leaves what was there."""
        for value, code in rows:
            with self.subTest(index=hex(index), sub=sub, value=hex(value)):
                before = bus.ask(index, sub)
                self.assertEqual(bus.set(index, sub, value, size), code)
                self.assertEqual(bus.ask(index, sub), before if code else little(value, size))


class Single(Taken):
    def test_1005(self):
        self.check(Bus(), 0x1005, 0, 4, (
            (0, 0), (1, 0), (0x7FE, 0), (0x7FF, 0), (0x800, WRONG), (0x10000, WRONG), (0x40000080, WRONG),
            (OFF + 0x80, WRONG), (0xFFFFFFFF, WRONG), (0x80, 0),
        ))

    def test_1014(self):
        rows = [(1 << bit, WRONG) for bit in range(11, 31)] + [(OFF + (1 << bit), WRONG) for bit in range(11, 31)]
        self.check(Bus(), 0x1014, 0, 4, rows + [(0, 0), (0x7FF, 0), (OFF, 0), (OFF + 0x7FF, 0), (0x85, 0)])

    def test_1016(self):
        rows = [(1 << bit, WRONG) for bit in range(23, 32)]
        for sub in (1, 2):
            self.check(Bus(), 0x1016, sub, 4, rows + [(1 << 22, 0), (0x7FFFFF, 0), (0x800000, WRONG), (0, 0)])

    def test_1017(self):
        self.check(Bus(), 0x1017, 0, 2, ((0xFFFF, 0), (1, 0), (0, 0)))

    def test_the_table_takes_all(self):
        bus = Bus()
        self.check(bus, 0x2000, 0, 1, ((0xFF, 0), (0, 0), (0xF1, 0)))
        self.check(bus, 0x2000, 1, 2, ((0xFFFF, 0), (0, 0)))
        self.check(bus, 0x2000, 2, 4, ((0xFFFFFFFF, 0), (0, 0)))


class Ways(Taken):
    WAYS = (0x1400, 0x1401, 0x1402, 0x1403, 0x1800, 0x1801, 0x1802, 0x1803)

    def test_ids_of_maps_that_are_off(self):
        rows = [(OFF + 0x200 + (1 << bit), WRONG) for bit in range(11, 31)]
        rows += [(0x200 + (1 << bit), WRONG) for bit in range(11, 31)]
        for ident, code in ((0, WRONG), (0x180, WRONG), (0x181, 0), (0x57F, 0), (0x580, WRONG), (0x7FF, WRONG)):
            rows.append((OFF + ident, code))
        for way in self.WAYS:
            self.check(Bus(), way, 1, 4, rows)

    def test_ids_that_put_a_map_on(self):
        for way in self.WAYS:
            for ident, code in ((0, WRONG), (0x180, WRONG), (0x181, 0), (0x57F, 0), (0x580, WRONG), (0x7FF, WRONG)):
                self.check(Bus(), way, 1, 4, ((ident, code),))

    def test_ids_of_maps_that_are_on(self):
        for way in self.WAYS:
            self.check(Bus(), way, 1, 4, (
                (0x201, 0), (0x201, 0), (0x202, NOT_NOW), (0x181, NOT_NOW), (0x180, WRONG), (0x580, WRONG),
                (0xA01, WRONG), (OFF + 0x180, WRONG), (OFF + 0x202, 0), (0x203, 0), (0x202, NOT_NOW),
            ))

    def test_when(self):
        for way in self.WAYS:
            self.check(Bus(), way, 2, 1, [(when, WRONG if 0xF1 <= when <= 0xFD else 0) for when in
                                          (0, 1, 0xEF, 0xF0, 0xF1, 0xF2, 0xF8, 0xFC, 0xFD, 0xFE, 0xFF)])

    def test_bytes_behind_when_say_nothing(self):
        bus = Bus()
        self.assertEqual(bus.request(0x2F, 0x00, 0x18, 2, 0x05, 0xF1, 0, 0), [0x60, 0x00, 0x18, 2, 0, 0, 0, 0])
        self.assertEqual(bus.request(0x22, 0x00, 0x18, 2, 0xF1, 1, 0, 0), [0x80, 0x00, 0x18, 2] + little(WRONG, 4))
        self.assertEqual(bus.ask(0x1800, 2), [5])

    def test_when_of_maps_that_are_on(self):
        for way in self.WAYS:
            bus = Bus()
            bus.set(way, 1, 0x201, 4)
            self.check(bus, way, 2, 1, ((0, 0), (0xF0, 0), (0xF1, WRONG), (0xFD, WRONG), (0xFE, 0)))

    def test_times(self):
        for way in self.WAYS[4:]:
            for on in (False, True):
                bus = Bus()
                if on:
                    bus.set(way, 1, 0x201, 4)
                self.check(bus, way, 3, 2, ((0xFFFF, 0), (0xF1, 0), (0xFD, 0), (1, 0), (0, 0)))
                self.check(bus, way, 5, 2, ((0xFFFF, 0), (0xF1, 0), (0xFD, 0), (1, 0), (0, 0)))


class Lists(Taken):
    LISTS = (0x1600, 0x1601, 0x1602, 0x1603, 0x1A00, 0x1A01, 0x1A02, 0x1A03)

    def test_not_while_the_map_is_on(self):
        good = mapping(0x2000, 0, 1)
        for index in self.LISTS:
            bus = Bus()
            bus.set(index, 1, good, 4)
            bus.set(index - 0x200, 1, 0x201, 4)
            self.check(bus, index, 0, 1, ((0, NOT_NOW), (1, NOT_NOW), (9, NOT_NOW)))
            for sub in range(1, 9):
                self.check(bus, index, sub, 4, ((good, NOT_NOW), (0, NOT_NOW)))
            bus.set(index - 0x200, 1, OFF + 0x201, 4)
            self.check(bus, index, 8, 4, ((good, 0),))
            self.check(bus, index, 0, 1, ((1, 0), (0, 0)))

    def test_another_map_that_is_on_says_nothing(self):
        good = mapping(0x2000, 0, 1)
        for index in self.LISTS:
            bus = Bus()
            for other in self.LISTS:
                if other != index:
                    bus.set(other - 0x200, 1, 0x201, 4)
            self.check(bus, index, 1, 4, ((good, 0),))
            self.check(bus, index, 0, 1, ((1, 0),))

    def test_what_is_mapped_not_while_it_is_counted(self):
        good = mapping(0x2000, 0, 1)
        for index in self.LISTS:
            bus = Bus()
            bus.set(index, 1, good, 4)
            bus.set(index, 2, good, 4)
            self.check(bus, index, 0, 1, ((1, 0),))
            for sub in range(1, 9):
                self.check(bus, index, sub, 4, ((good, NOT_NOW), (0, NOT_NOW)))
            self.check(bus, index, 0, 1, ((2, 0), (1, 0), (0, 0)))
            self.check(bus, index, 8, 4, ((good, 0),))

    def test_what_may_be_mapped(self):
        for index in self.LISTS:
            is_coming = index < 0x1800
            for sub in (1, 8):
                self.check(Bus(), index, sub, 4, (
                    (mapping(0x2000, 0, 1), 0), (mapping(0x2000, 1, 2), 0), (mapping(0x2000, 2, 4), 0),
                    (mapping(0x2000, 3, 8), 0), (mapping(0x9FFF, 0xFF, 8), 0),
                    (mapping(0x2001, 0, 1), NO_MAP if is_coming else 0),
                    (mapping(0x2001, 1, 1), 0 if is_coming else NO_MAP),
                    (mapping(0x2001, 2, 1), NO_MAP), (mapping(0x2001, 3, 1), NO_MAP),
                    (mapping(0x2000, 4, 1), NO_MAP), (mapping(0x2004, 0, 1), NO_MAP), (mapping(0x2003, 0, 2), NO_MAP),
                    (mapping(0, 0, 0), NO_MAP), (mapping(0, 5, 1), NO_MAP), (0xFFFFFFFF, NO_MAP),
                ))

    def test_how_many_bits(self):
        for index in self.LISTS:
            rows = []
            for sub, size in ((0, 1), (1, 2), (2, 4), (3, 8)):
                bits = (0, 1, 7, 8, 9, 15, 16, 17, 24, 31, 32, 33, 63, 64, 65, 128, 255)
                rows += [((0x2000 << 16) | (sub << 8) | count, 0 if count == 8 * size else NO_MAP) for count in bits]
            self.check(Bus(), index, 1, 4, rows)

    def test_how_many_are_counted(self):
        for index in self.LISTS:
            bus = Bus()
            for sub in range(1, 9):
                bus.set(index, sub, mapping(0x2000, 0, 1), 4)
            self.check(bus, index, 0, 1, ((8, 0), (7, 0), (9, WRONG), (10, WRONG), (255, WRONG), (8, 0), (0, 0)))

    def test_counted_ones_that_are_0(self):
        for index in self.LISTS:
            bus = Bus()
            self.check(bus, index, 0, 1, ((0, 0), (1, TOO_MUCH), (8, TOO_MUCH), (9, WRONG)))
            bus.set(index, 1, mapping(0x2000, 0, 1), 4)
            bus.set(index, 3, mapping(0x2000, 0, 1), 4)
            self.check(bus, index, 0, 1, ((1, 0), (2, TOO_MUCH), (3, TOO_MUCH), (4, TOO_MUCH), (0, 0)))

    def test_64_bits_in_all(self):
        for index in self.LISTS:
            bus = Bus()
            for sub, key in ((1, (0x2000, 2, 4)), (2, (0x2000, 1, 2)), (3, (0x2003, 5, 2)), (4, (0x2000, 0, 1))):
                bus.set(index, sub, mapping(*key), 4)
            self.check(bus, index, 0, 1, ((3, 0), (4, TOO_MUCH), (2, 0)))
            bus = Bus()
            bus.set(index, 1, mapping(0x2000, 3, 8), 4)
            bus.set(index, 2, mapping(0x2000, 0, 1), 4)
            self.check(bus, index, 0, 1, ((1, 0), (2, TOO_MUCH)))

    def test_in_pieces_too(self):
        bus = Bus()
        for index, sub, value, code in ((0x1A00, 1, 0x20040008, NO_MAP), (0x1800, 1, 0x580, WRONG)):
            bus.request(0x20, index & 0xFF, index >> 8, sub)
            answer = bus.request(0x07, *little(value, 4))
            self.assertEqual(answer, [0x80, index & 0xFF, index >> 8, sub] + little(code, 4))

    def test_a_mapped_entry_must_be_all_that_it_must(self):
        bus = Bus(table=table_of(line(0x2000, 0, 1, "r"), line(0x2000, 1, 1, "w"), line(0x2000, 2, 1, "m")))
        for index in (0x1600, 0x1A00):
            for sub in (0, 1, 2):
                self.check(bus, index, 1, 4, ((mapping(0x2000, sub, 1), NO_MAP),))


if __name__ == "__main__":
    unittest.main()
