"""Promise 5: cn_fault and cn_state."""

import unittest

from helper import AT_WORK, BEFORE_WORK, BYTE, Bus, LEAST, MOST, OFF, STATES, STOPPED, TWO, going_bus, little


def told(code, bits, ident=0x85):
    """The frame of a fault."""
    return (ident, little(code, 2) + [bits, 0, 0, 0, 0, 0])


def bits_of(bus):
    """1001, by cn_get and over the bus, which must be the same."""
    got = bus.get(0x1001, 0)
    assert got == bus.ask(0x1001, 0), got
    return got[0]


class Sent(unittest.TestCase):
    def test_the_frame(self):
        bus = Bus()
        self.assertEqual(bus.call(6, 0x1234, 2), [0])
        self.assertEqual(bus.take_raw(), [8, 0x85, 0x34, 0x12, 0x05, 0, 0, 0, 0, 0])
        self.assertEqual(bus.take_raw(), [-1])
        self.assertEqual(bits_of(bus), 0x05)

    def test_codes(self):
        for code in (1, 2, 0xFF, 0x100, 0x7FFF, 0x8000, 0xFF00, 0xFFFE, 0xFFFF):
            bus = Bus()
            self.assertEqual(bus.fault_sent(code, 1), [told(code, 3)])
            self.assertEqual(bits_of(bus), 3)

    def test_bits(self):
        for bit in range(8):
            bus = Bus()
            self.assertEqual(bits_of(bus), 0)
            self.assertEqual(bus.fault_sent(0x1000, bit), [told(0x1000, 1 | (1 << bit))])
            self.assertEqual(bits_of(bus), 1 | (1 << bit))

    def test_bits_stay_and_come_together(self):
        bus = Bus()
        bits = 0
        for bit in (3, 0, 7, 3, 5, 1, 2, 4, 6, 0):
            bits |= 1 | (1 << bit)
            self.assertEqual(bus.fault_sent(0x1000 + bit, bit), [told(0x1000 + bit, bits)])
            self.assertEqual(bits_of(bus), bits)
        self.assertEqual(bits, 0xFF)

    def test_each_time(self):
        bus = Bus()
        for count in range(3):
            self.assertEqual(bus.fault_sent(0x1000, 1), [told(0x1000, 3)])

    def test_bits_of_other_faults_stay(self):
        bus = Bus()
        bus.coming(0, [TWO])
        bus.work()
        self.assertEqual(bus.sent(0x205, [1]), [told(0x8210, 0x11)])
        self.assertEqual(bus.fault_sent(0x1234, 1), [told(0x1234, 0x13)])
        self.assertEqual(bus.sent(0x205, [1]), [told(0x8210, 0x13)])
        self.assertEqual(bus.fault_sent(0, 4), [told(0, 0)])
        self.assertEqual(bus.sent(0x205, [1]), [told(0x8210, 0x11)])

    def test_the_node_in_the_id(self):
        for node in (1, 127):
            bus = Bus(node)
            self.assertEqual(bus.fault_sent(0x1234, 0), [told(0x1234, 1, 0x80 + node)])


class CodeZero(unittest.TestCase):
    def test_1001_becomes_0_and_it_is_told(self):
        for bit in range(8):
            bus = Bus()
            bus.fault_sent(0x1234, 6)
            self.assertEqual(bits_of(bus), 0x41)
            self.assertEqual(bus.fault_sent(0, bit), [(0x85, [0] * 8)])
            self.assertEqual(bits_of(bus), 0)

    def test_with_nothing_there(self):
        bus = Bus()
        for count in range(2):
            self.assertEqual(bus.fault_sent(0, 7), [(0x85, [0] * 8)])
            self.assertEqual(bits_of(bus), 0)

    def test_then_a_fault(self):
        bus = Bus()
        bus.fault_sent(0x1234, 6)
        bus.fault_sent(0, 0)
        self.assertEqual(bus.fault_sent(0x1234, 2), [told(0x1234, 5)])

    def test_stopped_or_off(self):
        for is_off in (False, True):
            bus = Bus()
            bus.fault_sent(0x1234, 6)
            if is_off:
                bus.set(0x1014, 0, OFF + 0x85, 4)
            else:
                bus.to_state(STOPPED)
            self.assertEqual(bus.fault_sent(0, 0), [])
            self.assertEqual(bus.get(0x1001, 0), [0])

    def test_another_id(self):
        bus = Bus()
        bus.set(0x1014, 0, 0x7FF, 4)
        self.assertEqual(bus.fault_sent(0, 0), [(0x7FF, [0] * 8)])


class Refused(unittest.TestCase):
    def refused(self, *pairs):
        bus = Bus()
        bus.fault_sent(0x1234, 3)
        for code, bit in pairs:
            with self.subTest(code=code, bit=bit):
                self.assertEqual(bus.call(6, code, bit), [-2])
        self.assertEqual(bus.take_all(), [])
        self.assertEqual(bits_of(bus), 9)

    def test_codes(self):
        self.refused(*[(code, bit) for code in (-1, 0x10000, 0x10001, -0xFFFF, LEAST, MOST) for bit in (0, 7)])

    def test_bits(self):
        self.refused(*[(code, bit) for code in (0, 1, 0x1234, 0xFFFF) for bit in (-1, 8, 9, 255, 256, LEAST, MOST)])

    def test_both(self):
        self.refused((-1, -1), (-1, 8), (0x10000, -1), (0x10000, 8), (LEAST, LEAST), (MOST, MOST), (LEAST, MOST))

    def test_at_the_edges_it_is_done(self):
        bus = Bus()
        for code, bit in ((0, 0), (0, 7), (1, 0), (1, 7), (0xFFFF, 0), (0xFFFF, 7)):
            self.assertEqual(bus.call(6, code, bit), [0])


class WhenItIsSent(unittest.TestCase):
    def test_in_each_state(self):
        for state in STATES:
            bus = Bus()
            bus.to_state(state)
            self.assertEqual(bus.fault_sent(0x1234, 2), [] if state == STOPPED else [told(0x1234, 5)])
            self.assertEqual(bus.get(0x1001, 0), [5])
            bus.to_state(AT_WORK)
            self.assertEqual(bits_of(bus), 5)
            self.assertEqual(bus.ticked(1000), [])

    def test_1014_off_and_on(self):
        bus = Bus()
        for value in (OFF, OFF + 0x85, OFF + 0x7FF):
            bus.set(0x1014, 0, value, 4)
            self.assertEqual(bus.fault_sent(0x1234, 2), [])
            self.assertEqual(bits_of(bus), 5)
        bus.set(0x1014, 0, 0x85, 4)
        self.assertEqual(bus.fault_sent(0x1235, 1), [told(0x1235, 7)])

    def test_another_id(self):
        bus = Bus()
        for ident in (0, 1, 0x80, 0x123, 0x605, 0x7FF):
            self.assertEqual(bus.set(0x1014, 0, ident, 4), 0)
            self.assertEqual(bus.fault_sent(0x1234, 0), [told(0x1234, 1, ident)])

    def test_after_81_and_82_the_first_id(self):
        for command in (0x81, 0x82):
            bus = Bus()
            bus.set(0x1014, 0, 0x123, 4)
            bus.fault_sent(0x1234, 6)
            bus.to_state(STOPPED)
            bus.command(command)
            self.assertEqual(bits_of(bus), 0)
            self.assertEqual(bus.fault_sent(0x1234, 1), [told(0x1234, 3)])

    def test_the_row_full(self):
        for code, bits in ((0x1234, 5), (0, 0)):
            bus = Bus()
            bus.fill_row()
            self.assertEqual(bus.fault(code, 2), 0)
            self.assertEqual(bus.get(0x1001, 0), [bits])
            self.assertEqual([frame[0] for frame in bus.take_all()], [0x585] * 32)
            self.assertEqual(bits_of(bus), bits)

    def test_the_32nd_and_the_33rd(self):
        bus = Bus()
        bus.fill_row(31)
        self.assertEqual((bus.fault(1, 1), bus.fault(2, 2)), (0, 0))
        self.assertEqual(bus.take_all()[31:], [told(1, 3)])
        self.assertEqual(bits_of(bus), 7)

    def test_behind_what_is_in_the_row(self):
        bus = Bus(keep_first=True)
        bus.fault(1, 1)
        bus.frame(0x605, [0x40, 1, 0x10, 0, 0, 0, 0, 0])
        bus.fault(0, 0)
        asked = (0x585, [0x4F, 1, 0x10, 0, 3, 0, 0, 0])
        self.assertEqual(bus.take_all(), [(0x705, [0]), told(1, 3), asked, told(0, 0)])


class NothingElse(unittest.TestCase):
    def test_no_heart_and_no_map(self):
        bus = going_bus(least=10, often=20)
        bus.put(0x2000, 0, [1])
        bus.put(0x2000, 0, [2])
        bus.take_all()
        bus.set(0x1017, 0, 10, 2)
        bus.set(0x1016, 1, 0x070005, 4)
        bus.sent(0x707, [5])
        bus.tick(5)
        self.assertEqual(bus.fault_sent(0x1234, 1), [told(0x1234, 3)])
        self.assertEqual(bus.ticked(10), [told(0x8130, 0x13), (0x705, [AT_WORK]), (0x185, [2])])

    def test_a_request_in_hand_goes_on(self):
        bus = Bus()
        bus.request(0x20, 0, 0x20, 0)
        bus.fault_sent(0x1234, 1)
        self.assertEqual(bus.request(0x0D, 7), [0x20] + [0] * 7)

    def test_the_table_stays(self):
        bus = Bus()
        bus.put(0x2000, 0, [7])
        bus.fault_sent(0x1234, 1)
        bus.fault_sent(0, 1)
        self.assertEqual(bus.get(0x2000, 0), [7])

    def test_the_fault_s_own_id_is_not_heard(self):
        bus = Bus()
        bus.coming(0, [BYTE], ident=0x185)
        bus.set(0x1014, 0, 0x185, 4)
        bus.work()
        self.assertEqual(bus.fault_sent(0x1234, 1), [told(0x1234, 3, 0x185)])
        self.assertEqual(bus.get(0x2000, 0), [0])


class State(unittest.TestCase):
    def test_at_first(self):
        self.assertEqual(Bus(keep_first=True).call(7), [127])

    def test_each(self):
        for first in STATES:
            for second in STATES:
                bus = Bus()
                bus.to_state(first)
                bus.to_state(second)
                self.assertEqual(bus.call(7), [second])

    def test_by_each_command(self):
        for state in STATES:
            for command, left in ((1, 5), (2, 4), (0x80, 127), (0x81, 127), (0x82, 127), (0, None), (3, None),
                                  (0x7F, None), (0x83, None), (0xFF, None)):
                for node in (0, 5):
                    bus = Bus()
                    bus.to_state(state)
                    bus.frame(0, [command, node])
                    self.assertEqual(bus.state(), state if left is None else left, (state, command))

    def test_commands_that_are_not_for_it(self):
        bus = Bus()
        for data in ([1], [1, 6], [1, 5, 0], []):
            bus.frame(0, data)
            self.assertEqual(bus.state(), BEFORE_WORK)
        self.assertEqual(bus.frame(0, [1, 5] + [0] * 7), [-2])
        self.assertEqual(bus.state(), BEFORE_WORK)

    def test_after_81_and_82(self):
        for command in (0x81, 0x82):
            for state in STATES:
                bus = Bus()
                bus.to_state(state)
                bus.command(command)
                self.assertEqual(bus.state(), BEFORE_WORK)
                bus.work()
                self.assertEqual(bus.state(), AT_WORK)

    def test_the_other_calls_leave_it(self):
        for state in STATES:
            bus = Bus()
            bus.to_state(state)
            bus.fault(0x1234, 1)
            bus.put(0x2000, 0, [1])
            bus.get(0x2000, 0)
            bus.tick(1000)
            self.assertEqual(bus.state(), state)

    def test_nothing_else(self):
        bus = going_bus(often=10)
        bus.set(0x1017, 0, 10, 2)
        bus.tick(9)
        for count in range(3):
            self.assertEqual(bus.state(), AT_WORK)
        self.assertEqual(bus.take_all(), [])
        self.assertEqual(bus.ticked(10), [(0x705, [AT_WORK]), (0x185, [0])])


if __name__ == "__main__":
    unittest.main()
