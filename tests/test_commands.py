"""Promise 2: cn_frame's refusals, frames of id 0, the three states, and the order of the kinds."""

import unittest

from helper import AT_WORK, BEFORE_WORK, Bus, NODE, OFF, STATES, STOPPED, abort, little


def state_of(bus):
    """What the own heart tells, 1017 being 1."""
    frames = bus.ticked(bus.now + 1)
    assert len(frames) == 1 and frames[0][0] == 0x700 + bus.node, frames
    return frames[0][1][0]


def beating(state=BEFORE_WORK):
    bus = Bus()
    assert bus.set(0x1017, 0, 1, 2) == 0
    bus.to_state(state)
    return bus


class Refusals(unittest.TestCase):
    def test_ids(self):
        bus = Bus()
        for ident, answer in ((-1, -2), (0, 0), (1, 0), (0x7FE, 0), (0x7FF, 0), (0x800, -2),
                              (-2147483648, -2), (2147483647, -2), (0x605 + 0x800, -2)):
            with self.subTest(ident=ident):
                self.assertEqual(bus.frame(ident, [0] * 8), [answer])

    def test_how_many_bytes(self):
        for ident in (0, 0x80, 0x205, 0x605, 0x700, 0x7FF):
            bus = Bus()
            for count in range(17):
                with self.subTest(ident=hex(ident), count=count):
                    self.assertEqual(bus.frame(ident, [0] * count), [0 if count <= 8 else -2])

    def test_refused_all_is_as_it_was(self):
        for ident, data in ((-1, []), (0x800, []), (0x605, [0x40] + [0] * 8), (0, [1, 0] + [0] * 7)):
            with self.subTest(ident=ident):
                bus = Bus()
                bus.set(0x1017, 0, 10, 2)
                self.assertEqual(bus.frame(ident, data, 1000), [-2])
                self.assertEqual(bus.take_all(), [])
                # Had now become 1000, the heart would beat at 5 already.
                self.assertEqual(bus.ticked(5), [])
                self.assertEqual(bus.ticked(10), [(0x705, [BEFORE_WORK])])

    def test_refused_keeps_what_is_in_hand(self):
        bus = Bus()
        bus.request(0x20, 0x00, 0x20, 0)
        self.assertEqual(bus.frame(0x605, [0x80] + [0] * 8), [-2])
        self.assertEqual(bus.request(0x0D, 9), [0x20] + [0] * 7)
        self.assertEqual(bus.ask(0x2000, 0), [9])


class Commands(unittest.TestCase):
    def test_states(self):
        for start in STATES:
            for command, state in ((1, AT_WORK), (2, STOPPED), (0x80, BEFORE_WORK)):
                for node in (NODE, 0):
                    with self.subTest(start=start, command=command, node=node):
                        bus = beating(start)
                        self.assertEqual(bus.sent(0, [command, node]), [])
                        self.assertEqual(state_of(bus), state)

    def test_for_others(self):
        for start in STATES:
            for command in (1, 2, 0x80, 0x81, 0x82):
                for node in (4, 6, 127, 128, 133, 255):
                    with self.subTest(start=start, command=command, node=node):
                        bus = beating(start)
                        self.assertEqual(bus.sent(0, [command, node]), [])
                        self.assertEqual(state_of(bus), start)

    def test_other_commands(self):
        for start in STATES:
            for command in (0, 3, 4, 5, 0x7F, 0x83, 0xFF):
                with self.subTest(start=start, command=command):
                    bus = beating(start)
                    self.assertEqual(bus.command(command), [])
                    self.assertEqual(state_of(bus), start)

    def test_two_bytes_alone(self):
        for data in ([], [2], [2, NODE, 0], [2, 0, 0, 0], [2, NODE] + [0] * 6, [0x81], [0x81, 0, 0]):
            with self.subTest(data=data):
                bus = beating(AT_WORK)
                self.assertEqual(bus.sent(0, data), [])
                self.assertEqual(state_of(bus), AT_WORK)

    def test_beginning_anew_from_each_state(self):
        for command in (0x81, 0x82):
            for start in STATES:
                for node in (NODE, 0):
                    with self.subTest(command=command, start=start, node=node):
                        bus = beating(start)
                        self.assertEqual(bus.sent(0, [command, node]), [(0x705, [0])])
                        self.assertEqual(bus.ticked(100), [])
                        bus.set(0x1017, 0, 1, 2)
                        self.assertEqual(state_of(bus), BEFORE_WORK)

    def test_what_they_leave_of_the_dictionary(self):
        for command, left in ((0x81, 0), (0x82, 7)):
            with self.subTest(command=command):
                bus = Bus()
                bus.set(0x2000, 0, 7, 1)
                bus.set_long(0x2000, 3, 7)
                bus.set(0x2001, 2, 7, 1)
                bus.set(0x1005, 0, 0x81, 4)
                bus.set(0x1014, 0, OFF, 4)
                bus.set(0x1016, 1, 0x70001, 4)
                bus.set(0x1016, 2, 0x80001, 4)
                bus.set(0x1017, 0, 0x1234, 2)
                bus.coming(3, [(0x2000, 0, 1)], 0)
                bus.going(2, [(0x2000, 0, 1)], 0, 3, 4)
                self.assertEqual(bus.command(command), [(0x705, [0])])
                self.assertEqual(bus.ask(0x2000, 0), [left])
                self.assertEqual(bus.ask(0x2000, 3), [left] + [0] * 7)
                self.assertEqual(bus.ask(0x2001, 2), [left])
                for index, sub, size, value in (
                    (0x1005, 0, 4, 0x80), (0x1014, 0, 4, 0x85), (0x1016, 1, 4, 0), (0x1016, 2, 4, 0),
                    (0x1017, 0, 2, 0), (0x1403, 1, 4, OFF + 0x505), (0x1403, 2, 1, 0xFF), (0x1603, 0, 1, 0),
                    (0x1603, 1, 4, 0), (0x1802, 1, 4, OFF + 0x385), (0x1802, 2, 1, 0xFF), (0x1802, 3, 2, 0),
                    (0x1802, 5, 2, 0), (0x1A02, 0, 1, 0), (0x1A02, 1, 4, 0), (0x1016, 0, 1, 2),
                ):
                    self.assertEqual(bus.ask(index, sub), little(value, size), (hex(index), sub))

    def test_1001_is_as_at_first(self):
        for command in (0x81, 0x82):
            bus = Bus()
            bus.coming(0, [(0x2000, 1, 2)])
            bus.work()
            bus.sent(0x205, [1])
            self.assertEqual(bus.ask(0x1001, 0), [0x11])
            bus.command(command)
            self.assertEqual(bus.ask(0x1001, 0), [0])

    def test_the_row_stays(self):
        for command in (0x81, 0x82):
            bus = Bus(keep_first=True)
            bus.frame(0x605, [0x40, 0, 0x20, 0, 0, 0, 0, 0])
            bus.frame(0, [command, 0])
            self.assertEqual(bus.take_all(), [(0x705, [0]), (0x585, [0x4F, 0, 0x20, 0, 0, 0, 0, 0]), (0x705, [0])])

    def test_now_stays(self):
        for command in (0x81, 0x82):
            bus = Bus()
            bus.tick(1000)
            bus.command(command, 500)
            bus.set(0x1017, 0, 10, 2, 500)
            self.assertEqual(bus.ticked(1009), [])
            self.assertEqual(bus.ticked(1010), [(0x705, [BEFORE_WORK])])

    def test_requests_in_hand_end(self):
        for command in (0x81, 0x82):
            bus = Bus()
            bus.request(0x20, 0, 0x20, 0)
            bus.command(command)
            self.assertEqual(bus.request(0x0D, 1), abort(0, 0, 0x05040001))

    def test_requests_in_hand_go_on_else(self):
        bus = Bus()
        bus.request(0x20, 0, 0x20, 0)
        for state in (STOPPED, AT_WORK, BEFORE_WORK):
            bus.to_state(state)
        self.assertEqual(bus.request(0x0D, 1), [0x20] + [0] * 7)

    def test_kept_maps_are_forgotten(self):
        for command, left in ((0x81, 0), (0x82, 0), (0x80, 9), (2, 9)):
            with self.subTest(command=command):
                bus = Bus()
                bus.coming(0, [(0x2000, 0, 1)], 0)
                bus.work()
                bus.sent(0x205, [9])
                bus.command(command)
                if command in (0x81, 0x82):
                    bus.coming(0, [(0x2000, 0, 1)], 0)
                bus.work()
                bus.sent(0x80)
                self.assertEqual(bus.ask(0x2000, 0), [left])

    def test_what_is_to_be_sent_is_forgotten(self):
        for command in (0x81, 0x82):
            bus = Bus()
            bus.going(0, [(0x2000, 0, 1)], 0xFF)
            bus.set(0x2000, 0, 9, 1)
            bus.command(command)
            bus.going(0, [(0x2000, 0, 1)], 0xFF)
            self.assertEqual(bus.work(), [])
            self.assertEqual(bus.ticked(1000), [])

    def test_hearts_heard_are_forgotten(self):
        for command in (0x81, 0x82):
            bus = Bus()
            bus.set(0x1016, 1, 0x070010, 4)
            bus.sent(0x707, [5])
            bus.command(command)
            self.assertEqual(bus.ticked(1000), [])
            bus.set(0x1016, 1, 0x070010, 4)
            self.assertEqual(bus.ticked(2000), [])

    def test_work_begins_once(self):
        bus = Bus()
        bus.going(0, [(0x2000, 0, 1)], 2)
        bus.work()
        self.assertEqual(bus.sent(0x80), [])
        # 1 at work says nothing: the count of marks goes on.
        bus.work()
        self.assertEqual(bus.sent(0x80), [(0x185, [0])])


class Kinds(unittest.TestCase):
    """Where two kinds have the same id, the first has the frame, even where it then says nothing."""

    def test_of_no_kind(self):
        for state in STATES:
            bus = Bus()
            bus.to_state(state)
            for ident in (1, 0x7F, 0x81, 0x185, 0x205, 0x305, 0x585, 0x604, 0x606, 0x700, 0x705, 0x706, 0x7FF):
                for count in (0, 1, 2, 8):
                    with self.subTest(state=state, ident=hex(ident), count=count):
                        self.assertEqual(bus.sent(ident, [1] * count), [])
            bus.to_state(BEFORE_WORK)
            self.assertEqual(bus.ask(0x1001, 0), [0])

    def test_0_before_the_mark(self):
        bus = Bus()
        bus.going(0, [(0x2000, 0, 1)], 1)
        bus.set(0x1005, 0, 0, 4)
        bus.work()
        for data in ([], [1], [1, 0], [1, 0, 0], [9, 9]):
            self.assertEqual(bus.sent(0, data), [])
        self.assertEqual(bus.sent(0x80), [])

    def test_requests_before_the_mark(self):
        bus = Bus()
        bus.going(0, [(0x2000, 0, 1)], 1)
        bus.set(0x1005, 0, 0x605, 4)
        bus.work()
        self.assertEqual(bus.sent(0x605, [0] * 7), [])
        self.assertEqual(bus.sent(0x605, [0x40, 0, 0x20, 0, 0, 0, 0, 0]), [(0x585, [0x4F, 0, 0x20, 0, 0, 0, 0, 0])])

    def test_the_mark_before_coming_maps(self):
        bus = Bus()
        bus.coming(0, [(0x2000, 0, 1)])
        bus.going(0, [(0x2000, 0, 1)], 1)
        bus.set(0x1005, 0, 0x205, 4)
        bus.work()
        self.assertEqual(bus.sent(0x205, [9]), [(0x185, [0])])
        self.assertEqual(bus.sent(0x205, []), [(0x185, [0])])
        self.assertEqual(bus.ask(0x2000, 0), [0])

    def test_the_mark_before_hearts(self):
        for state in STATES:
            with self.subTest(state=state):
                bus = Bus()
                bus.set(0x1016, 1, 0x070010, 4)
                bus.set(0x1005, 0, 0x707, 4)
                bus.to_state(state)
                bus.sent(0x707, [5])
                self.assertEqual(bus.ticked(1000), [])

    def test_the_first_coming_map_of_an_id(self):
        bus = Bus()
        bus.coming(1, [(0x2000, 0, 1)], ident=0x3AB)
        bus.coming(2, [(0x2002, 0, 1)], ident=0x3AB)
        bus.work()
        bus.sent(0x3AB, [9])
        self.assertEqual((bus.ask(0x2000, 0), bus.ask(0x2002, 0)), ([9], [0]))
        bus.set(0x1401, 1, OFF + 0x3AB, 4)
        bus.sent(0x3AB, [8])
        self.assertEqual((bus.ask(0x2000, 0), bus.ask(0x2002, 0)), ([9], [8]))

    def test_requests_in_each_state(self):
        for state, answer in ((BEFORE_WORK, True), (AT_WORK, True), (STOPPED, False)):
            for count in range(9):
                with self.subTest(state=state, count=count):
                    bus = Bus()
                    bus.to_state(state)
                    frames = bus.sent(0x605, ([0x40, 0, 0x10, 0] + [0] * 4)[:count])
                    there = [(0x585, [0x43, 0, 0x10, 0] + [0] * 4)]
                    self.assertEqual(frames, there if answer and count == 8 else [])

    def test_requests_go_by_the_node(self):
        for node in (1, 127):
            bus = Bus(node)
            self.assertEqual(bus.sent(0x605, [0x40, 0, 0x10, 0, 0, 0, 0, 0]), [])
            self.assertEqual(bus.request(0x40, 0, 0x10, 0), [0x43, 0, 0x10, 0, 0, 0, 0, 0])


if __name__ == "__main__":
    unittest.main()
