"""Promise 2: requests that set and ask, at once and in pieces, and their aborts."""

import unittest

from helper import Bus, abort, name, set_request

SET_ANSWER = [0x60, 0x00, 0x20]


class SetAtOnce(unittest.TestCase):
    def test_each_size(self):
        bus = Bus()
        self.assertEqual(bus.request(0x2F, 0, 0x20, 0, 0x91), SET_ANSWER + [0] * 5)
        self.assertEqual(bus.request(0x2B, 0, 0x20, 1, 0x91, 0x82), SET_ANSWER + [1, 0, 0, 0, 0])
        self.assertEqual(bus.request(0x23, 0, 0x20, 2, 0x91, 0x82, 0x73, 0xF4), SET_ANSWER + [2, 0, 0, 0, 0])
        self.assertEqual(bus.ask(0x2000, 0), [0x91])
        self.assertEqual(bus.ask(0x2000, 1), [0x91, 0x82])
        self.assertEqual(bus.ask(0x2000, 2), [0x91, 0x82, 0x73, 0xF4])

    def test_what_stands_behind_the_value_says_nothing(self):
        bus = Bus()
        self.assertEqual(bus.request(0x2F, 0, 0x20, 0, 1, 2, 3, 4), SET_ANSWER + [0] * 5)
        self.assertEqual(bus.ask(0x2000, 0), [1])
        self.assertEqual(bus.request(0x3F, 0, 0x20, 0, 5), SET_ANSWER + [0] * 5)
        self.assertEqual(bus.ask(0x2000, 0), [5])

    def test_without_bit_0_as_many_as_it_has(self):
        for bits in (0x22, 0x26, 0x2A, 0x2E):
            bus = Bus()
            self.assertEqual(bus.request(bits, 0, 0x20, 0, 1, 2, 3, 4), SET_ANSWER + [0] * 5)
            self.assertEqual(bus.request(bits, 0, 0x20, 1, 1, 2, 3, 4), SET_ANSWER + [1, 0, 0, 0, 0])
            self.assertEqual(bus.request(bits, 0, 0x20, 2, 1, 2, 3, 4), SET_ANSWER + [2, 0, 0, 0, 0])
            self.assertEqual(bus.ask(0x2000, 0), [1])
            self.assertEqual(bus.ask(0x2000, 1), [1, 2])
            self.assertEqual(bus.ask(0x2000, 2), [1, 2, 3, 4])
            self.assertEqual(bus.request(bits, 0, 0x20, 3, 1, 2, 3, 4), abort(0x2000, 3, 0x06070013))
            self.assertEqual(bus.ask(0x2000, 3), [0] * 8)

    def test_how_many_bytes(self):
        for sub, size in ((0, 1), (1, 2), (2, 4), (3, 8)):
            for count in (1, 2, 3, 4):
                with self.subTest(size=size, count=count):
                    bus = Bus()
                    code = bus.set(0x2000, sub, 0x01010101 % 256 ** count, count)
                    self.assertEqual(code, 0x06070012 if count > size else 0x06070013 if count < size else 0)
                    self.assertEqual(bus.ask(0x2000, sub) == [0] * size, count != size)

    def test_what_is_not_there(self):
        bus = Bus()
        for bits in (0x20, 0x21, 0x22, 0x23, 0x2F):
            with self.subTest(bits=bits):
                self.assertEqual(bus.request(bits, 0xFF, 0x1F, 0), abort(0x1FFF, 0, 0x06020000))
                self.assertEqual(bus.request(bits, 0x00, 0x20, 4), abort(0x2000, 4, 0x06090011))
                self.assertEqual(bus.request(bits, 0x03, 0x20, 4), abort(0x2003, 4, 0x06090011))
                self.assertEqual(bus.request(bits, 0x03, 0x20, 6), abort(0x2003, 6, 0x06090011))
                self.assertEqual(bus.request(bits, 0x01, 0x20, 0), abort(0x2001, 0, 0x06010002))
                self.assertEqual(bus.request(bits, 0x00, 0x10, 0), abort(0x1000, 0, 0x06010002))

    def test_it_may_be_written_before_how_many_bytes(self):
        bus = Bus()
        self.assertEqual(bus.set(0x1001, 0, 0, 4), 0x06010002)

    def test_how_many_bytes_before_the_value(self):
        bus = Bus()
        self.assertEqual(bus.set(0x1800, 2, 0xF1F1, 2), 0x06070012)
        self.assertEqual(bus.set(0x1005, 0, 0xFFFF, 2), 0x06070013)

    def test_written_but_not_read(self):
        bus = Bus()
        bus.going(0, [(0x2000, 0, 1)])
        self.assertEqual(bus.set(0x2001, 1, 7, 1), 0)
        self.assertEqual(bus.ask(0x2001, 1), 0x06010001)


class SetInPieces(unittest.TestCase):
    def test_eight_bytes(self):
        bus = Bus()
        self.assertEqual(bus.request(0x21, 0, 0x20, 3, 8), SET_ANSWER + [3, 0, 0, 0, 0])
        self.assertEqual(bus.request(0x00, 1, 2, 3, 4, 5, 6, 7), [0x20] + [0] * 7)
        self.assertEqual(bus.request(0x1D, 0xF8), [0x30] + [0] * 7)
        self.assertEqual(bus.ask(0x2000, 3), [1, 2, 3, 4, 5, 6, 7, 0xF8])

    def test_each_size_in_one_piece(self):
        for sub, size in ((0, 1), (1, 2), (2, 4)):
            bus = Bus()
            self.assertEqual(bus.request(0x20, 0, 0x20, sub), SET_ANSWER + [sub, 0, 0, 0, 0])
            self.assertEqual(bus.request(0x01 + 2 * (7 - size), *range(1, 8)), [0x20] + [0] * 7)
            self.assertEqual(bus.ask(0x2000, sub), list(range(1, size + 1)))

    def test_many_small_pieces(self):
        bus = Bus()
        bus.request(0x20, 0, 0x20, 3)
        for byte in range(8):
            turn = 0x10 * (byte % 2)
            self.assertEqual(bus.request(0x0C + turn, byte + 1), [0x20 + turn] + [0] * 7)
        self.assertEqual(bus.request(0x0F), [0x20] + [0] * 7)
        self.assertEqual(bus.ask(0x2000, 3), [1, 2, 3, 4, 5, 6, 7, 8])

    def test_nothing_is_set_before_the_last(self):
        bus = Bus()
        bus.request(0x20, 0, 0x20, 0)
        bus.request(0x0C, 9)
        self.assertEqual(bus.ask(0x2000, 0), [0])

    def test_how_many_are_said_to_come(self):
        for sub, size in ((0, 1), (1, 2), (2, 4), (3, 8)):
            for count in (0, size - 1, size, size + 1, 256 + size, size << 24, 0xFFFFFFFF):
                with self.subTest(size=size, count=count):
                    bus = Bus()
                    answer = bus.request(0x21, 0, 0x20, sub, *[(count >> shift) & 0xFF for shift in (0, 8, 16, 24)])
                    code = 0x06070012 if count > size else 0x06070013 if count < size else 0
                    self.assertEqual(answer, abort(0x2000, sub, code) if code else SET_ANSWER + [sub, 0, 0, 0, 0])
                    next_answer = bus.request(0x0C, 1)
                    self.assertEqual(next_answer, abort(0, 0, 0x05040001) if code else [0x20] + [0] * 7)

    def test_without_bit_0_nothing_is_said(self):
        bus = Bus()
        self.assertEqual(bus.request(0x20, 0, 0x20, 0, 9, 9, 9, 9), SET_ANSWER + [0] * 5)
        self.assertEqual(bus.request(0x0D, 1), [0x20] + [0] * 7)

    def test_too_many(self):
        for sub, size in ((0, 1), (1, 2), (2, 4)):
            for last in (0, 1):
                bus = Bus()
                bus.request(0x20, 0, 0x20, sub)
                bits = 2 * (7 - size - 1) + last
                self.assertEqual(bus.request(bits, *[1] * 7), abort(0x2000, sub, 0x06070012))
                self.assertEqual(bus.request(0x1D, 1), abort(0, 0, 0x05040001))
                self.assertEqual(bus.ask(0x2000, sub), [0] * size)

    def test_too_many_at_the_second(self):
        bus = Bus()
        bus.request(0x20, 0, 0x20, 3)
        bus.request(0x00, *[1] * 7)
        self.assertEqual(bus.request(0x1A, 1, 1), abort(0x2000, 3, 0x06070012))
        self.assertEqual(bus.ask(0x2000, 3), [0] * 8)

    def test_too_few(self):
        for sub, size in ((0, 1), (1, 2), (2, 4), (3, 8)):
            bus = Bus()
            bus.request(0x20, 0, 0x20, sub)
            bits = 1 + 2 * (7 - size + 1)
            self.assertEqual(bus.request(bits, *[1] * 7), abort(0x2000, sub, 0x06070013))
            self.assertEqual(bus.request(0x1D, 1), abort(0, 0, 0x05040001))
            self.assertEqual(bus.ask(0x2000, sub), [0] * size)

    def test_none_awaited(self):
        bus = Bus()
        for bits in (0x00, 0x01, 0x10, 0x1F):
            self.assertEqual(bus.request(bits, 1, 2, 3), abort(0, 0, 0x05040001))

    def test_none_awaited_behind_the_last(self):
        bus = Bus()
        bus.request(0x20, 0, 0x20, 0)
        bus.request(0x0D, 1)
        self.assertEqual(bus.request(0x1D, 1), abort(0, 0, 0x05040001))

    def test_none_awaited_behind_a_set_at_once(self):
        bus = Bus()
        bus.set(0x2000, 0, 1, 1)
        self.assertEqual(bus.request(0x0D, 1), abort(0, 0, 0x05040001))

    def test_none_awaited_while_asked(self):
        bus = Bus()
        bus.request(0x40, 0, 0x20, 3)
        self.assertEqual(bus.request(0x0D, 1), abort(0x2000, 3, 0x05040001))
        self.assertEqual(bus.request(0x60), abort(0, 0, 0x05040001))

    def test_the_wrong_turn_at_first(self):
        bus = Bus()
        bus.request(0x20, 0, 0x20, 0)
        self.assertEqual(bus.request(0x1D, 1), abort(0x2000, 0, 0x05030000))
        self.assertEqual(bus.request(0x0D, 1), abort(0, 0, 0x05040001))
        self.assertEqual(bus.ask(0x2000, 0), [0])

    def test_the_wrong_turn_later(self):
        bus = Bus()
        bus.request(0x20, 0, 0x20, 3)
        bus.request(0x0C, 1)
        self.assertEqual(bus.request(0x0C, 1), abort(0x2000, 3, 0x05030000))
        bus.request(0x20, 0, 0x20, 3)
        bus.request(0x0C, 1)
        bus.request(0x1C, 1)
        self.assertEqual(bus.request(0x1C, 1), abort(0x2000, 3, 0x05030000))

    def test_the_turn_before_too_many(self):
        bus = Bus()
        bus.request(0x20, 0, 0x20, 0)
        self.assertEqual(bus.request(0x10, 1), abort(0x2000, 0, 0x05030000))

    def test_a_value_that_is_not_taken(self):
        bus = Bus()
        bus.request(0x20, 5, 0x10, 0)
        self.assertEqual(bus.request(0x07, 0x00, 0x08, 0, 0), abort(0x1005, 0, 0x06090030))
        self.assertEqual(bus.request(0x17, 1, 0, 0, 0), abort(0, 0, 0x05040001))
        self.assertEqual(bus.ask(0x1005, 0), [0x80, 0, 0, 0])

    def test_a_new_one_ends_what_is_in_hand(self):
        for first in ([0x2F, 0, 0x20, 0, 1], [0x40, 0, 0x20, 0], [0x40, 0, 0x30, 0], [0x23, 0, 0x30, 0]):
            bus = Bus()
            bus.request(0x20, 0, 0x20, 1)
            bus.request(*first)
            self.assertEqual(bus.request(0x0B, 1, 2), abort(0, 0, 0x05040001))
            self.assertEqual(bus.ask(0x2000, 1), [0, 0])

    def test_a_new_one_begins_with_no_bytes_and_turn_0(self):
        bus = Bus()
        bus.request(0x20, 0, 0x20, 3)
        bus.request(0x00, *[9] * 7)
        bus.request(0x20, 0, 0x20, 1)
        self.assertEqual(bus.request(0x0B, 1, 2), [0x20] + [0] * 7)
        self.assertEqual(bus.ask(0x2000, 1), [1, 2])

    def test_more_turns_of_bits_1_to_3(self):
        bus = Bus()
        bus.request(0x20, 0, 0x20, 3)
        self.assertEqual(bus.request(0x0E, 9), [0x20] + [0] * 7)
        self.assertEqual(bus.request(0x18, 1, 2, 3, 9), [0x30] + [0] * 7)
        self.assertEqual(bus.request(0x05, 4, 5, 6, 7, 8, 9), [0x20] + [0] * 7)
        self.assertEqual(bus.ask(0x2000, 3), [1, 2, 3, 4, 5, 6, 7, 8])


class Ask(unittest.TestCase):
    def test_each_size(self):
        bus = Bus()
        bus.set(0x2000, 0, 0xF1, 1)
        bus.set(0x2000, 1, 0xF2E1, 2)
        bus.set(0x2000, 2, 0xF4D3E2C1, 4)
        bus.set_long(0x2000, 3, 0xF8A7B6C5D4E3F201)
        self.assertEqual(bus.request(0x40, 0, 0x20, 0), [0x4F, 0, 0x20, 0, 0xF1, 0, 0, 0])
        self.assertEqual(bus.request(0x40, 0, 0x20, 1), [0x4B, 0, 0x20, 1, 0xE1, 0xF2, 0, 0])
        self.assertEqual(bus.request(0x40, 0, 0x20, 2), [0x43, 0, 0x20, 2, 0xC1, 0xE2, 0xD3, 0xF4])
        self.assertEqual(bus.request(0x40, 0, 0x20, 3), [0x41, 0, 0x20, 3, 8, 0, 0, 0])
        self.assertEqual(bus.request(0x60), [0x00, 0x01, 0xF2, 0xE3, 0xD4, 0xC5, 0xB6, 0xA7])
        self.assertEqual(bus.request(0x70), [0x1D, 0xF8, 0, 0, 0, 0, 0, 0])
        self.assertEqual(bus.request(0x60), abort(0, 0, 0x05040001))

    def test_the_other_bits_say_nothing(self):
        bus = Bus()
        bus.set(0x2000, 0, 0xF1, 1)
        for bits in range(0x40, 0x60):
            self.assertEqual(bus.request(bits, 0, 0x20, 0, 9, 9, 9, 9), [0x4F, 0, 0x20, 0, 0xF1, 0, 0, 0])
        bus.request(0x40, 0, 0x20, 3)
        self.assertEqual(bus.request(0x6F, 9, 9, 9), [0x00] + [0] * 7)

    def test_what_is_not_there(self):
        bus = Bus()
        self.assertEqual(bus.request(0x40, 0xFF, 0x1F, 7), abort(0x1FFF, 7, 0x06020000))
        self.assertEqual(bus.request(0x40, 0x00, 0x20, 4), abort(0x2000, 4, 0x06090011))
        self.assertEqual(bus.request(0x40, 0x01, 0x20, 1), abort(0x2001, 1, 0x06010001))
        self.assertEqual(bus.request(0x40, 0x01, 0x20, 3), abort(0x2001, 3, 0x06010001))

    def test_none_awaited(self):
        bus = Bus()
        self.assertEqual(bus.request(0x60), abort(0, 0, 0x05040001))
        bus.ask(0x2000, 2)
        self.assertEqual(bus.request(0x60), abort(0, 0, 0x05040001))
        bus.request(0x20, 0, 0x20, 2)
        self.assertEqual(bus.request(0x60), abort(0x2000, 2, 0x05040001))
        self.assertEqual(bus.request(0x07, 1, 2, 3, 4), abort(0, 0, 0x05040001))

    def test_the_wrong_turn(self):
        bus = Bus()
        bus.request(0x40, 0, 0x20, 3)
        self.assertEqual(bus.request(0x70), abort(0x2000, 3, 0x05030000))
        self.assertEqual(bus.request(0x60), abort(0, 0, 0x05040001))
        bus.request(0x40, 0, 0x20, 3)
        bus.request(0x60)
        self.assertEqual(bus.request(0x60), abort(0x2000, 3, 0x05030000))
        self.assertEqual(bus.request(0x70), abort(0, 0, 0x05040001))

    def test_a_new_one_ends_what_is_in_hand(self):
        bus = Bus()
        bus.request(0x40, 0, 0x20, 3)
        bus.request(0x60)
        bus.request(0x40, 0, 0x20, 2)
        self.assertEqual(bus.request(0x70), abort(0, 0, 0x05040001))

    def test_what_was_asked_goes_though_it_changes(self):
        bus = Bus()
        bus.coming(0, [(0x2000, 3, 8)])
        bus.work()
        bus.request(0x40, 0, 0x20, 3)
        bus.sent(0x205, [1, 2, 3, 4, 5, 6, 7, 8])
        self.assertEqual(bus.request(0x60), [0] * 8)
        self.assertEqual(bus.request(0x70), [0x1D] + [0] * 7)


class Others(unittest.TestCase):
    def test_4_ends_what_is_in_hand_unanswered(self):
        for bits in (0x80, 0x9F):
            bus = Bus()
            self.assertIsNone(bus.request(bits))
            bus.request(0x20, 0, 0x20, 0)
            self.assertIsNone(bus.request(bits, 1, 2, 3))
            self.assertEqual(bus.request(0x0D, 1), abort(0, 0, 0x05040001))
            bus.request(0x40, 0, 0x20, 3)
            self.assertIsNone(bus.request(bits))
            self.assertEqual(bus.request(0x60), abort(0, 0, 0x05040001))

    def test_5_to_7(self):
        for bits in (0xA0, 0xBF, 0xC0, 0xDF, 0xE0, 0xFF):
            bus = Bus()
            self.assertEqual(bus.request(bits, 0, 0x20, 2), abort(0, 0, 0x05040001))
            bus.request(0x20, 0, 0x20, 1)
            self.assertEqual(bus.request(bits, 0, 0x20, 2), abort(0x2000, 1, 0x05040001))
            self.assertEqual(bus.request(bits, 0, 0x20, 2), abort(0, 0, 0x05040001))
            bus.request(0x40, 0xFF, 0x9F, 0xFF)
            self.assertEqual(bus.request(bits, 0, 0x20, 2), abort(0x9FFF, 0xFF, 0x05040001))

    def test_at_work_too(self):
        bus = Bus()
        bus.work()
        self.assertEqual(bus.set(0x2000, 0, 9, 1), 0)
        self.assertEqual(bus.ask(0x2000, 0), [9])

    def test_stopped_nothing_is_set(self):
        bus = Bus()
        bus.to_state(4)
        self.assertEqual(bus.sent(0x605, set_request(0x2000, 0, 9, 1)), [])
        bus.to_state(0x7F)
        self.assertEqual(bus.ask(0x2000, 0), [0])

    def test_the_highest_entry(self):
        bus = Bus()
        self.assertEqual(bus.set_long(0x9FFF, 0xFF, 0x8877665544332211), 0)
        self.assertEqual(bus.request(0x40, *name(0x9FFF, 0xFF)), [0x41, 0xFF, 0x9F, 0xFF, 8, 0, 0, 0])
        self.assertEqual(bus.request(0x60), [0, 0x11, 0x22, 0x33, 0x44, 0x55, 0x66, 0x77])


if __name__ == "__main__":
    unittest.main()
