"""Promise 4: cn_set, its refusals, and the going maps at its end."""

import unittest

from helper import AT_WORK, BEFORE_WORK, BYTE, Bus, EIGHT, FOUR, LEAST, MOST, NODE, OFF, OTHER, STATES, STOPPED, TABLE
from helper import RIGHTS, TWO, abort, besides, going_bus, line, little, rights_bus, table_of

HEART = (0x705, [AT_WORK])


class Done(unittest.TestCase):
    def test_each_size(self):
        bus = Bus()
        for index, sub, size in (BYTE, TWO, FOUR, EIGHT, (0x9FFF, 0xFF, 8), (0x2003, 5, 2)):
            row = [0xF1 + at for at in range(size)]
            self.assertEqual(bus.call(5, index, sub, size, *row), [0])
            self.assertEqual(bus.get(index, sub), row)
            self.assertEqual(bus.ask(index, sub), row)

    def test_one_entry_alone(self):
        bus = Bus()
        bus.put(0x2000, 1, [1, 2])
        self.assertEqual((bus.get(0x2000, 0), bus.get(0x2000, 2), bus.get(0x2002, 0)), ([0], [0] * 4, [0]))

    def test_edges_of_bytes(self):
        for byte in (0, 1, 127, 128, 254, 255):
            bus = Bus()
            self.assertEqual(bus.put(0x2000, 3, [byte, 0] * 4), 0)
            self.assertEqual(bus.get(0x2000, 3), [byte, 0] * 4)

    def test_again(self):
        bus = Bus()
        for row in ([1, 2, 3, 4], [0xFF] * 4, [0, 0, 0, 1], [0] * 4):
            self.assertEqual(bus.put(0x2000, 2, row), 0)
            self.assertEqual(bus.get(0x2000, 2), row)

    def test_whatever_may_be_done_over_the_bus(self):
        for size in (1, 2, 4, 8):
            bus = rights_bus(size)
            for at, held in enumerate(RIGHTS):
                with self.subTest(size=size, rights=held):
                    self.assertEqual(bus.put(0x2000, at, [at + 7] * size), 0)
                    self.assertEqual(bus.get(0x2000, at), [at + 7] * size)

    def test_read_over_the_bus_though_not_written_there(self):
        bus = Bus()
        self.assertEqual(bus.set(0x2001, 0, 9, 1), 0x06010002)
        self.assertEqual(bus.put(0x2001, 0, [9]), 0)
        self.assertEqual(bus.ask(0x2001, 0), [9])

    def test_in_each_state(self):
        for state in STATES:
            bus = Bus()
            bus.to_state(state)
            self.assertEqual(bus.put_sent(0x2000, 0, [9]), [])
            self.assertEqual(bus.get(0x2000, 0), [9])

    def test_first_and_last_of_the_table(self):
        bus = Bus(table=table_of(line(0x2000, 0, 1, ""), line(0x9FFF, 255, 1, "")))
        self.assertEqual((bus.put(0x2000, 0, [1]), bus.put(0x9FFF, 255, [2])), (0, 0))
        self.assertEqual((bus.get(0x2000, 0), bus.get(0x9FFF, 255)), ([1], [2]))


class Refused(unittest.TestCase):
    def test_how_many_bytes(self):
        for index, sub, size in (BYTE, TWO, FOUR, EIGHT, (0x2001, 3, 1), (0x9FFF, 0xFF, 8)):
            bus = Bus()
            bus.put(index, sub, [3] * size)
            for count in range(17):
                with self.subTest(size=size, count=count):
                    self.assertEqual(bus.call(5, index, sub, count, *[9] * count), [0 if count == size else -2])
                    self.assertEqual(bus.get(index, sub), [3 if count < size else 9] * size)

    def test_zeros_are_bytes_too(self):
        bus = Bus()
        bus.put(0x2000, 1, [1, 2])
        for row in ([], [0], [0] * 3, [0] * 8, [0] * 16):
            self.assertEqual(bus.put(0x2000, 1, row), -2)
        self.assertEqual(bus.get(0x2000, 1), [1, 2])

    def test_entries_besides_the_table_s(self):
        bus = Bus()
        for index, sub, size, rights, value in besides(NODE):
            with self.subTest(index=hex(index), sub=sub):
                for count in (size, 0, 16):
                    self.assertEqual(bus.call(5, index, sub, count, *[1] * count), [-1])
                self.assertEqual(bus.get(index, sub), little(value, size))

    def test_no_such_entry(self):
        bus = Bus()
        for index, sub in (
            (0x2000, 4), (0x2003, 0), (0x2004, 0), (0x9FFF, 0), (0xA000, 0), (0xFFFF, 255), (0, 0), (0x1FFF, 0),
            (-1, 0), (0x2000, -1), (0x2000, 256), (LEAST, 0), (MOST, 0), (0x2000, LEAST), (0x2000, MOST),
            (LEAST, LEAST), (MOST, MOST), (LEAST, MOST), (MOST, LEAST),
        ):
            with self.subTest(index=index, sub=sub):
                for count in (0, 1, 2, 4, 8, 16):
                    self.assertEqual(bus.call(5, index, sub, count, *[9] * count), [-1])

    def test_index_and_sub_that_together_come_out_as_another_s(self):
        bus = Bus()
        for index, sub in (
            (0x1FFF, 0x100), (0x2001, -0x100), (0, 0x200000), (-1, 0x200100), (0x802000, LEAST), (0x12000, 0),
            (0x2000 - 0x10000, 0), (0x2000, 0x100), (0x2000, -0x100), (0x2000, 0x10000), (LEAST + 0x2000, 0),
        ):
            with self.subTest(index=index, sub=sub):
                self.assertEqual(bus.put(index, sub, [9]), -1)
        self.assertEqual(bus.put(-0x7F6000, MOST, [9] * 8), -1)
        self.assertEqual((bus.get(0x2000, 0), bus.get(0x9FFF, 0xFF)), ([0], [0] * 8))

    def test_none_goes_before_how_many_bytes(self):
        bus = Bus()
        for row in ([], [1] * 3, [1] * 16):
            self.assertEqual(bus.put(0x2000, 9, row), -1)
            self.assertEqual(bus.put(0x1001, 0, row), -1)
            self.assertEqual(bus.put(0x2000, 0, row), -2)

    def test_all_is_as_it_was(self):
        bus = going_bus([BYTE])
        bus.request(0x20, 0, 0x20, 1)
        for index, sub, row in ((0x2000, 0, []), (0x2000, 0, [9, 9]), (0x2000, 9, [9]), (0x1017, 0, [9, 9])):
            self.assertLess(bus.put(index, sub, row), 0)
        self.assertEqual(bus.take_all(), [])
        self.assertEqual(bus.get(0x2000, 0), [0])
        self.assertEqual(bus.request(0x0B, 7, 8), [0x20] + [0] * 7)
        self.assertEqual(bus.get(0x2000, 1), [7, 8])
        self.assertEqual(bus.ticked(1000), [])

    def test_a_refused_one_leaves_what_waits_waiting(self):
        bus = going_bus([BYTE], least=100)
        self.assertEqual(bus.put_sent(0x2000, 0, [1]), [(0x185, [1])])
        self.assertEqual(bus.put_sent(0x2000, 0, [2]), [])
        self.assertEqual((bus.put(0x2000, 0, []), bus.put(0x2000, 9, [3])), (-2, -1))
        self.assertEqual(bus.take_all(), [])
        self.assertEqual(bus.ticked(100), [(0x185, [2])])


class GoingMaps(unittest.TestCase):
    def test_sent_at_its_end(self):
        for when in (0xFE, 0xFF):
            bus = going_bus(when=when)
            self.assertEqual(bus.put_sent(0x2000, 0, [7]), [(0x185, [7])])
            self.assertEqual(bus.ticked(1000), [])

    def test_not_written_over_the_bus(self):
        bus = going_bus([(0x2001, 0, 1)])
        self.assertEqual(bus.put_sent(0x2001, 0, [7]), [(0x185, [7])])

    def test_each_size_with_what_else_is_mapped(self):
        bus = going_bus([FOUR, BYTE, TWO])
        self.assertEqual(bus.put_sent(0x2000, 2, [1, 2, 3, 4]), [(0x185, [1, 2, 3, 4, 0, 0, 0])])
        self.assertEqual(bus.put_sent(0x2000, 1, [6, 7]), [(0x185, [1, 2, 3, 4, 0, 6, 7])])
        self.assertEqual(bus.put_sent(0x2000, 0, [5]), [(0x185, [1, 2, 3, 4, 5, 6, 7])])
        bus = going_bus([EIGHT])
        self.assertEqual(bus.put_sent(0x2000, 3, [1, 2, 3, 4, 5, 6, 7, 8]), [(0x185, [1, 2, 3, 4, 5, 6, 7, 8])])

    def test_only_at_work(self):
        for state in STATES:
            bus = going_bus(work=False)
            bus.to_state(state)
            self.assertEqual(bus.put_sent(0x2000, 0, [7]), [(0x185, [7])] if state == AT_WORK else [])

    def test_set_before_work_it_is_sent_when_work_begins(self):
        for state in (BEFORE_WORK, STOPPED):
            bus = going_bus(work=False)
            bus.to_state(state)
            self.assertEqual(bus.put_sent(0x2000, 0, [7]), [])
            self.assertEqual(bus.ticked(100), [])
            self.assertEqual(bus.work(), [(0x185, [7])])

    def test_set_to_the_same(self):
        bus = going_bus()
        self.assertEqual(bus.put_sent(0x2000, 0, [0]), [])
        self.assertEqual(bus.put_sent(0x2000, 0, [7]), [(0x185, [7])])
        self.assertEqual(bus.put_sent(0x2000, 0, [7]), [])
        self.assertEqual(bus.ticked(1000), [])
        self.assertEqual(bus.put_sent(0x2000, 0, [0]), [(0x185, [0])])

    def test_set_there_and_back(self):
        bus = going_bus(least=10)
        bus.put_sent(0x2000, 0, [7])
        self.assertEqual((bus.put(0x2000, 0, [8]), bus.put(0x2000, 0, [7])), (0, 0))
        self.assertEqual(bus.take_all(), [])
        self.assertEqual(bus.ticked(10), [(0x185, [7])])

    def test_entries_that_are_not_in_it(self):
        bus = going_bus()
        self.assertEqual(bus.put_sent(0x2002, 0, [7]), [])
        self.assertEqual(bus.ticked(1000), [])

    def test_off(self):
        bus = going_bus()
        bus.set(0x1800, 1, OFF + 0x185, 4)
        self.assertEqual(bus.put_sent(0x2000, 0, [7]), [])

    def test_every_map_that_has_it_in_order(self):
        bus = Bus()
        for place, key in ((3, BYTE), (2, OTHER), (1, BYTE), (0, BYTE)):
            bus.going(place, [key])
        bus.work()
        self.assertEqual(bus.put_sent(0x2000, 0, [7]), [(0x185, [7]), (0x285, [7]), (0x485, [7])])
        self.assertEqual(bus.put_sent(0x2002, 0, [8]), [(0x385, [8])])

    def test_when_0_waits_for_the_mark(self):
        bus = going_bus(when=0)
        self.assertEqual(bus.put_sent(0x2000, 0, [7]), [])
        self.assertEqual(bus.ticked(1000), [])
        self.assertEqual(bus.sent(0x80), [(0x185, [7])])
        self.assertEqual(bus.sent(0x80), [])
        bus.put(0x2000, 0, [7])
        self.assertEqual(bus.sent(0x80), [])

    def test_when_1_to_f0_waits_for_its_marks(self):
        for when in (1, 2, 0xF0):
            bus = going_bus(when=when)
            self.assertEqual(bus.put_sent(0x2000, 0, [7]), [])
            for count in range(when - 1):
                bus.calls.extend([1, 0x80, 0, 0])
            self.assertEqual(bus.put_sent(0x2000, 0, [8]), [])
            self.assertEqual(bus.sent(0x80), [(0x185, [8])])

    def test_the_least_time_goes_by_the_last_now(self):
        for when in (0xFE, 0xFF):
            bus = going_bus(when=when, least=100)
            bus.tick(1000)
            self.assertEqual(bus.put_sent(0x2000, 0, [1]), [(0x185, [1])])
            self.assertEqual(bus.ticked(1099), [])
            self.assertEqual(bus.put_sent(0x2000, 0, [2]), [])
            self.assertEqual(bus.ticked(1100), [(0x185, [2])])
            self.assertEqual(bus.ticked(1200), [])
            self.assertEqual(bus.put_sent(0x2000, 0, [3]), [(0x185, [3])])

    def test_the_last_now_is_the_greatest_and_no_refused_one(self):
        bus = going_bus(least=100)
        bus.tick(1000)
        bus.put_sent(0x2000, 0, [1])
        bus.tick(1100)
        bus.tick(5)
        self.assertEqual(bus.put_sent(0x2000, 0, [2]), [(0x185, [2])])
        self.assertEqual(bus.frame(0x800, [], 9000), [-2])
        self.assertEqual(bus.put_sent(0x2000, 0, [3]), [])
        self.assertEqual(bus.ticked(1199), [])
        self.assertEqual(bus.ticked(1200), [(0x185, [3])])

    def test_sent_at_least_so_often_since_it(self):
        bus = going_bus(often=50)
        bus.tick(30)
        self.assertEqual(bus.put_sent(0x2000, 0, [7]), [(0x185, [7])])
        self.assertEqual(bus.ticked(79), [])
        self.assertEqual(bus.put_sent(0x2002, 0, [7]), [])
        self.assertEqual(bus.put_sent(0x2000, 0, [7]), [])
        self.assertEqual(bus.ticked(80), [(0x185, [7])])
        self.assertEqual(bus.put_sent(0x2000, 0, [7]), [])

    def test_both_times(self):
        bus = going_bus(least=100, often=50)
        self.assertEqual(bus.ticked(50), [(0x185, [0])])
        bus.tick(149)
        self.assertEqual(bus.put_sent(0x2000, 0, [7]), [])
        self.assertEqual(bus.ticked(150), [(0x185, [7])])

    def test_at_once_if_it_has_not_been_sent_since_work_began(self):
        bus = going_bus(least=100)
        self.assertEqual(bus.put_sent(0x2000, 0, [1]), [(0x185, [1])])
        bus.to_state(BEFORE_WORK)
        bus.to_state(AT_WORK)
        self.assertEqual(bus.put_sent(0x2000, 0, [2]), [(0x185, [2])])
        self.assertEqual(bus.put_sent(0x2000, 0, [3]), [])

    def test_lost_in_a_full_row_it_counts_as_sent(self):
        bus = going_bus()
        bus.fill_row()
        self.assertEqual(bus.put(0x2000, 0, [7]), 0)
        self.assertEqual(len(bus.take_all()), 32)
        self.assertEqual(bus.ticked(1000), [])
        self.assertEqual(bus.get(0x2000, 0), [7])

    def test_the_32nd_is_kept(self):
        bus = going_bus()
        bus.fill_row(31)
        bus.put(0x2000, 0, [7])
        bus.put(0x2000, 0, [8])
        self.assertEqual(bus.take_all()[31:], [(0x185, [7])])

    def test_81_and_82_forget_it(self):
        for command in (0x81, 0x82):
            bus = going_bus(work=False)
            bus.put(0x2000, 0, [7])
            bus.command(command)
            bus.going(0, [BYTE])
            self.assertEqual(bus.work(), [])
            self.assertEqual(bus.put_sent(0x2000, 0, [9]), [(0x185, [9])])

    def test_a_map_that_comes_later_has_the_value(self):
        bus = going_bus([BYTE, OTHER])
        bus.put(0x2002, 0, [9])
        bus.take_all()
        self.assertEqual(bus.set(0x2000, 0, 7, 1), 0)
        self.assertEqual(bus.behind, [(0x185, [7, 9])])


class NothingElse(unittest.TestCase):
    def test_no_own_heart(self):
        bus = going_bus()
        bus.set(0x1017, 0, 10, 2)
        bus.tick(9)
        self.assertEqual(bus.put_sent(0x2000, 0, [7]), [(0x185, [7])])
        self.assertEqual(bus.ticked(10), [HEART])
        self.assertEqual(bus.put_sent(0x2000, 0, [8]), [(0x185, [8])])
        self.assertEqual(bus.ticked(19), [])
        self.assertEqual(bus.ticked(20), [HEART])

    def test_no_followed_heart(self):
        bus = going_bus()
        bus.set(0x1016, 1, 0x070064, 4)
        bus.sent(0x707, [5])
        bus.tick(100)
        self.assertEqual(bus.put_sent(0x2000, 0, [7]), [(0x185, [7])])
        self.assertEqual(bus.get(0x1001, 0), [0])
        self.assertEqual(bus.ticked(101), [(0x85, [0x30, 0x81, 0x11, 0, 0, 0, 0, 0])])

    def test_a_request_in_hand_goes_on(self):
        bus = Bus()
        bus.request(0x20, 0, 0x20, 3)
        bus.request(0x00, 1, 2, 3, 4, 5, 6, 7)
        self.assertEqual(bus.put_sent(0x2000, 3, [9] * 8), [])
        self.assertEqual(bus.get(0x2000, 3), [9] * 8)
        self.assertEqual(bus.request(0x1D, 8), [0x30] + [0] * 7)
        self.assertEqual(bus.get(0x2000, 3), [1, 2, 3, 4, 5, 6, 7, 8])
        self.assertEqual(bus.request(0x00, 1), abort(0, 0, 0x05040001))

    def test_what_was_asked_goes_though_it_changes(self):
        bus = Bus()
        bus.put(0x2000, 3, [1, 2, 3, 4, 5, 6, 7, 8])
        bus.request(0x40, 0, 0x20, 3)
        bus.put(0x2000, 3, [9] * 8)
        self.assertEqual(bus.request(0x60), [0, 1, 2, 3, 4, 5, 6, 7])
        bus.put(0x2000, 3, [10] * 8)
        self.assertEqual(bus.request(0x70), [0x1D, 8, 0, 0, 0, 0, 0, 0])
        self.assertEqual(bus.ask(0x2000, 3), [10] * 8)

    def test_a_kept_map_is_taken_over_it(self):
        bus = Bus()
        bus.coming(0, [BYTE], 0)
        bus.work()
        bus.frame(0x205, [7])
        bus.put(0x2000, 0, [9])
        self.assertEqual(bus.get(0x2000, 0), [9])
        bus.frame(0x80)
        self.assertEqual(bus.get(0x2000, 0), [7])

    def test_another_node_s_table(self):
        bus = Bus(9, [])
        for index, sub, size in (BYTE, TWO, FOUR, EIGHT):
            self.assertEqual(bus.put(index, sub, [1] * size), -1)
        bus = Bus(9, TABLE[:8])
        self.assertEqual((bus.put(0x2000, 0, [1]), bus.put(0x2000, 1, [1, 1])), (0, -1))


if __name__ == "__main__":
    unittest.main()
