"""Promise 2: the own heart, followed hearts, and the order of what the end of a call sends."""

import unittest

from helper import AT_WORK, BEFORE_WORK, Bus, OFF, STOPPED

FAULT = (0x85, [0x30, 0x81, 0x11, 0, 0, 0, 0, 0])
HEART = (0x705, [BEFORE_WORK])


class Own(unittest.TestCase):
    def test_the_millisecond(self):
        bus = Bus()
        bus.set(0x1017, 0, 100, 2, 1000)
        self.assertEqual(bus.behind, [])
        self.assertEqual(bus.ticked(1099), [])
        self.assertEqual(bus.ticked(1100), [HEART])
        self.assertEqual(bus.ticked(1199), [])
        self.assertEqual(bus.ticked(1200), [HEART])

    def test_by_a_frame(self):
        bus = Bus()
        bus.set(0x1017, 0, 100, 2)
        self.assertEqual(bus.sent(0x7FF, [], 99), [])
        self.assertEqual(bus.sent(0x7FF, [], 100), [HEART])

    def test_once_however_long(self):
        bus = Bus()
        bus.set(0x1017, 0, 100, 2)
        self.assertEqual(bus.ticked(1050), [HEART])
        self.assertEqual(bus.ticked(1149), [])
        self.assertEqual(bus.ticked(1150), [HEART])

    def test_0_is_never(self):
        bus = Bus()
        self.assertEqual(bus.ticked(4294967295), [])
        bus.set(0x1017, 0, 1, 2)
        bus.set(0x1017, 0, 0, 2)
        self.assertEqual(bus.ticked(4294967295), [])

    def test_since_it_was_last_set(self):
        bus = Bus()
        bus.set(0x1017, 0, 100, 2)
        for value in (100, 100, 50):
            bus.set(0x1017, 0, value, 2, bus.now + 40)
        self.assertEqual(bus.ticked(169), [])
        self.assertEqual(bus.ticked(170), [HEART])

    def test_an_aborted_set_is_none(self):
        bus = Bus()
        bus.set(0x1017, 0, 100, 2)
        self.assertEqual(bus.set(0x1017, 0, 100, 4, 50), 0x06070012)
        self.assertEqual(bus.ticked(100), [HEART])

    def test_set_in_pieces(self):
        bus = Bus()
        bus.tick(1000)
        bus.request(0x20, 0x17, 0x10, 0)
        bus.request(0x0B, 100, 0, now=1010)
        self.assertEqual(bus.ticked(1109), [])
        self.assertEqual(bus.ticked(1110), [HEART])

    def test_other_sets_say_nothing(self):
        bus = Bus()
        bus.set(0x1017, 0, 100, 2)
        bus.set(0x1005, 0, 0x81, 4, 50)
        bus.set(0x2000, 0, 1, 1, 60)
        bus.set(0x1016, 1, 0x70001, 4, 70)
        self.assertEqual(bus.ticked(100), [HEART])

    def test_the_state(self):
        bus = Bus()
        bus.set(0x1017, 0, 1, 2)
        for state in (AT_WORK, STOPPED, BEFORE_WORK):
            bus.to_state(state)
            self.assertEqual(bus.ticked(bus.now + 1), [(0x705, [state])])

    def test_the_state_that_the_frame_leaves(self):
        bus = Bus()
        bus.set(0x1017, 0, 10, 2)
        self.assertEqual(bus.command(2, 10), [(0x705, [STOPPED])])

    def test_the_longest(self):
        bus = Bus()
        bus.set(0x1017, 0, 0xFFFF, 2)
        self.assertEqual(bus.ticked(0xFFFE), [])
        self.assertEqual(bus.ticked(0xFFFF), [HEART])

    def test_a_now_that_is_less(self):
        bus = Bus()
        bus.set(0x1017, 0, 100, 2, 1000)
        self.assertEqual(bus.ticked(10), [])
        self.assertEqual(bus.ticked(0), [])
        self.assertEqual(bus.ticked(1100), [HEART])
        # A lesser one counts as the last: 1100, not 20, nor is time wound back.
        self.assertEqual(bus.ticked(20), [])
        self.assertEqual(bus.sent(0x7FF, [], 30), [])
        self.assertEqual(bus.ticked(1199), [])
        self.assertEqual(bus.ticked(1200), [HEART])

    def test_a_now_that_is_less_when_it_is_set(self):
        bus = Bus()
        bus.tick(1000)
        bus.set(0x1017, 0, 100, 2, 10)
        self.assertEqual(bus.behind, [])
        self.assertEqual(bus.ticked(1099), [])
        self.assertEqual(bus.ticked(1100), [HEART])


class Followed(unittest.TestCase):
    def following(self, sub=1, node=7, time=100):
        bus = Bus()
        self.assertEqual(bus.set(0x1016, sub, (node << 16) | time, 4), 0)
        return bus

    def test_the_millisecond(self):
        for sub in (1, 2):
            bus = self.following(sub)
            self.assertEqual(bus.sent(0x707, [5], 1000), [])
            self.assertEqual(bus.ticked(1099), [])
            self.assertEqual(bus.ticked(1100), [])
            self.assertEqual(bus.ticked(1101), [FAULT])

    def test_not_before_it_beat_once(self):
        bus = self.following()
        self.assertEqual(bus.ticked(100000), [])

    def test_one_byte_alone_whatever_it_is(self):
        for data in ([], [5, 5], [5] * 8):
            bus = self.following()
            bus.sent(0x707, data)
            self.assertEqual(bus.ticked(1000), [])
        for byte in (0, 4, 5, 0x7F, 0xFF):
            bus = self.following()
            bus.sent(0x707, [byte])
            self.assertEqual(bus.ticked(1000), [FAULT])

    def test_two_bytes_are_no_beat(self):
        bus = self.following()
        bus.sent(0x707, [5])
        bus.sent(0x707, [5, 5], 100)
        self.assertEqual(bus.ticked(101), [FAULT])

    def test_waited_for_again_when_it_beats_again(self):
        bus = self.following()
        bus.sent(0x707, [5])
        self.assertEqual(bus.ticked(101), [FAULT])
        self.assertEqual(bus.ticked(1000), [])
        self.assertEqual(bus.sent(0x707, [5], 2000), [])
        self.assertEqual(bus.ticked(2100), [])
        self.assertEqual(bus.ticked(2101), [FAULT])

    def test_each_beat_begins_anew(self):
        bus = self.following()
        for now in (0, 90, 180, 280):
            self.assertEqual(bus.sent(0x707, [5], now), [])
        self.assertEqual(bus.ticked(380), [])
        self.assertEqual(bus.ticked(381), [FAULT])

    def test_a_late_beat_is_still_a_beat(self):
        bus = self.following()
        bus.sent(0x707, [5])
        self.assertEqual(bus.sent(0x707, [5], 5000), [])

    def test_by_a_frame(self):
        bus = self.following()
        bus.sent(0x707, [5])
        self.assertEqual(bus.sent(0x708, [5], 100), [])
        self.assertEqual(bus.sent(0x708, [5], 101), [FAULT])

    def test_in_each_state(self):
        for state in (BEFORE_WORK, AT_WORK, STOPPED):
            bus = self.following()
            bus.to_state(state)
            bus.sent(0x707, [5])
            self.assertEqual(bus.ticked(101), [] if state == STOPPED else [FAULT])
            bus.to_state(BEFORE_WORK)
            self.assertEqual(bus.ask(0x1001, 0), [0x11])
            self.assertEqual(bus.ticked(1000), [])

    def test_faults_off(self):
        bus = self.following()
        bus.set(0x1014, 0, OFF + 0x85, 4)
        bus.sent(0x707, [5])
        self.assertEqual(bus.ticked(101), [])
        self.assertEqual(bus.ask(0x1001, 0), [0x11])

    def test_both_numbers_not_0(self):
        for value, ident in ((0x070000, 0x707), (0x000064, 0x700), (0, 0x700)):
            bus = Bus()
            bus.set(0x1016, 1, value, 4)
            bus.sent(ident, [5])
            self.assertEqual(bus.ticked(100000), [])

    def test_nodes_and_times_at_the_edges(self):
        for node in (1, 127):
            for time in (1, 0xFFFF):
                bus = self.following(2, node, time)
                bus.sent(0x700 + node, [5])
                self.assertEqual(bus.ticked(time), [])
                self.assertEqual(bus.ticked(time + 1), [FAULT])

    def test_other_nodes(self):
        bus = self.following()
        for ident in (0x706, 0x708, 0x607, 0x7, 0x700):
            bus.sent(ident, [5])
        self.assertEqual(bus.ticked(1000), [])

    def test_two_of_them(self):
        bus = self.following(1, 7, 100)
        bus.set(0x1016, 2, 0x080032, 4)
        bus.sent(0x707, [5])
        bus.sent(0x708, [5])
        self.assertEqual(bus.ticked(50), [])
        self.assertEqual(bus.ticked(51), [FAULT])
        self.assertEqual(bus.ticked(100), [])
        self.assertEqual(bus.ticked(101), [FAULT])

    def test_two_of_one_node(self):
        bus = self.following(1, 7, 100)
        bus.set(0x1016, 2, 0x070064, 4)
        bus.sent(0x707, [5])
        self.assertEqual(bus.ticked(101), [FAULT, FAULT])

    def test_set_it_has_not_been_heard_yet(self):
        for sub in (1, 2):
            for value in (0x070064, 0x070065, 0x080064, 0):
                bus = self.following(sub)
                bus.sent(0x707, [5])
                self.assertEqual(bus.set(0x1016, sub, value, 4), 0)
                self.assertEqual(bus.ticked(10000), [])

    def test_the_other_one_set_says_nothing(self):
        for sub in (1, 2):
            bus = self.following(sub)
            bus.sent(0x707, [5])
            bus.set(0x1016, 3 - sub, 0x080064, 4)
            bus.set(0x1017, 0, 0, 2)
            self.assertEqual(bus.ticked(101), [FAULT])

    def test_an_aborted_set_says_nothing(self):
        bus = self.following()
        bus.sent(0x707, [5])
        self.assertEqual(bus.set(0x1016, 1, 0x800000, 4), 0x06090030)
        self.assertEqual(bus.ticked(101), [FAULT])

    def test_a_now_that_is_less(self):
        bus = self.following()
        bus.tick(1000)
        bus.sent(0x707, [5], 10)
        self.assertEqual(bus.ticked(1100), [])
        self.assertEqual(bus.ticked(1101), [FAULT])

    def test_the_own_node(self):
        bus = self.following(1, 5, 100)
        bus.sent(0x705, [5])
        self.assertEqual(bus.ticked(101), [FAULT])

    def test_the_own_heart_is_not_heard(self):
        bus = self.following(1, 5, 100)
        bus.set(0x1017, 0, 10, 2)
        self.assertEqual(bus.ticked(10), [HEART])
        bus.set(0x1017, 0, 0, 2)
        self.assertEqual(bus.ticked(1000), [])


class Order(unittest.TestCase):
    def test_faults_then_the_heart_then_maps(self):
        bus = Bus()
        bus.going(1, [(0x2000, 0, 1)], often=101)
        bus.going(0, [(0x2000, 0, 1)], often=101)
        bus.set(0x1016, 2, 0x070064, 4)
        bus.set(0x1017, 0, 101, 2)
        bus.work()
        bus.sent(0x707, [5])
        self.assertEqual(bus.ticked(101), [FAULT, (0x705, [AT_WORK]), (0x185, [0]), (0x285, [0])])

    def test_the_answer_comes_first(self):
        bus = Bus()
        bus.going(0, [(0x2000, 0, 1)])
        bus.set(0x1017, 0, 10, 2)
        bus.work()
        frames = bus.sent(0x605, [0x2F, 0, 0x20, 0, 7, 0, 0, 0], 10)
        self.assertEqual(frames, [(0x585, [0x60, 0, 0x20, 0, 0, 0, 0, 0]), (0x705, [AT_WORK]), (0x185, [7])])

    def test_what_a_mark_sends_comes_before_the_end(self):
        bus = Bus()
        bus.going(0, [(0x2000, 0, 1)], often=10)
        bus.going(1, [(0x2000, 0, 1)], 1)
        bus.set(0x1017, 0, 10, 2)
        bus.work()
        self.assertEqual(bus.sent(0x80, [], 10), [(0x285, [0]), (0x705, [AT_WORK]), (0x185, [0])])

    def test_both_faults_in_1001(self):
        bus = Bus()
        bus.coming(0, [(0x2000, 0, 1)])
        bus.set(0x1016, 1, 0x070064, 4)
        bus.work()
        bus.sent(0x707, [5])
        frames = bus.sent(0x205, [], 101)
        self.assertEqual(frames, [(0x85, [0x10, 0x82, 0x11, 0, 0, 0, 0, 0]), FAULT])


if __name__ == "__main__":
    unittest.main()
