"""How the tests speak to a node: a call at a time, though `answers` takes them all at once."""

import os
import sys

sys.path.insert(0, os.path.dirname(os.path.dirname(os.path.abspath(__file__))))

from framenode.bus import answers

NODE = 5
BEFORE_WORK = 0x7F
AT_WORK = 5
STOPPED = 4
STATES = (BEFORE_WORK, AT_WORK, STOPPED)
OFF = 0x80000000
LEAST = -2147483648
MOST = 2147483647

# All that may and may not be done over the bus.
RIGHTS = ("", "r", "w", "m", "rw", "rm", "wm", "rwm")

# Entries of TABLE, as maps name them: index, sub, size.
BYTE = (0x2000, 0, 1)
TWO = (0x2000, 1, 2)
FOUR = (0x2000, 2, 4)
EIGHT = (0x2000, 3, 8)
OTHER = (0x2002, 0, 1)


def line(index, sub, size, rights, last=0):
    return [index & 0xFF, index >> 8, sub, size] + [int(right in rights) for right in "rwm"] + [last]


def table_of(*lines):
    return [byte for one in lines for byte in one]


TABLE = table_of(
    line(0x2000, 0, 1, "rwm"),
    line(0x2000, 1, 2, "rwm"),
    line(0x2000, 2, 4, "rwm"),
    line(0x2000, 3, 8, "rwm"),
    line(0x2001, 0, 1, "rm"),
    line(0x2001, 1, 1, "wm"),
    line(0x2001, 2, 1, "rw"),
    line(0x2001, 3, 1, ""),
    line(0x2002, 0, 1, "rwm"),
    line(0x2003, 5, 2, "rwm"),
    line(0x9FFF, 0xFF, 8, "rwm"),
)


def little(number, size):
    return [(number >> (8 * place)) & 0xFF for place in range(size)]


def number(row):
    return sum(byte << (8 * place) for place, byte in enumerate(row))


def mapping(index, sub, size):
    return (index << 16) | (sub << 8) | (8 * size)


def begin_calls(node=NODE, table=TABLE):
    return [0, node, len(table)] + list(table)


def split(given):
    """The flat list that `answers` gives back, as a list of each call's answer."""
    parts = []
    at = 0
    while at < len(given):
        parts.append(given[at + 1:at + 1 + given[at]])
        assert len(parts[-1]) == given[at], given
        at += 1 + given[at]
    return parts


def begin(node=NODE, table=TABLE):
    return split(answers(begin_calls(node, table)))


class Bus:
    """One node, begun, with the beginning frame taken unless told otherwise."""

    def __init__(self, node=NODE, table=TABLE, keep_first=False):
        self.node = node
        self.calls = begin_calls(node, table)
        self.now = 0
        if not keep_first:
            assert self.take() == (0x700 + node, [0])

    def call(self, *numbers):
        self.calls.extend(numbers)
        return split(answers(self.calls))[-1]

    def frame(self, ident, data=(), now=None):
        self.now = self.now if now is None else now
        return self.call(1, ident, self.now, len(data), *data)

    def tick(self, now):
        self.now = now
        return self.call(2, now)

    def take_raw(self):
        return self.call(3)

    def take(self):
        raw = self.take_raw()
        if raw == [-1]:
            return None
        assert len(raw) == 10 and raw[2 + raw[0]:] == [0] * (8 - raw[0]), raw
        return (raw[1], raw[2:2 + raw[0]])

    def take_all(self):
        frames = []
        frame = self.take()
        while frame is not None:
            frames.append(frame)
            frame = self.take()
        return frames

    def get(self, index, sub):
        """The value's bytes, as many as its size says; None where there's none."""
        raw = self.call(4, index, sub)
        if raw == [-1]:
            return None
        assert len(raw) == 9 and raw[1 + raw[0]:] == [0] * (8 - raw[0]), raw
        return raw[1:1 + raw[0]]

    def put(self, index, sub, row):
        """cn_set's answer: the device's own set, where `set` goes over the bus."""
        answer = self.call(5, index, sub, len(row), *row)
        assert len(answer) == 1, answer
        return answer[0]

    def put_sent(self, index, sub, row):
        """What a cn_set that's done makes the node send."""
        assert self.put(index, sub, row) == 0
        return self.take_all()

    def fault(self, code, bit):
        answer = self.call(6, code, bit)
        assert len(answer) == 1, answer
        return answer[0]

    def fault_sent(self, code, bit):
        assert self.fault(code, bit) == 0
        return self.take_all()

    def state(self):
        answer = self.call(7)
        assert len(answer) == 1, answer
        return answer[0]

    def fill_row(self, count=32):
        """So many answers of eight bytes, none of them taken."""
        for at in range(count):
            self.calls.extend([1, 0x600 + self.node, self.now, 8, 0x40, 0x00, 0x10, 0, 0, 0, 0, 0])

    def sent(self, ident, data=(), now=None):
        """What a frame that comes makes the node send."""
        assert self.frame(ident, data, now) == [0]
        return self.take_all()

    def ticked(self, now):
        assert self.tick(now) == [0]
        return self.take_all()

    def command(self, command, now=None):
        return self.sent(0, [command, self.node], now)

    def work(self, now=None):
        return self.command(1, now)

    def to_state(self, state):
        command = {BEFORE_WORK: 0x80, AT_WORK: 1, STOPPED: 2}[state]
        assert self.command(command) == []

    def request(self, *data, now=None):
        """The eight bytes of the answer, or None where there's none; nothing else may be sent."""
        frames = self.sent(0x600 + self.node, filled(data), now)
        if not frames:
            return None
        assert len(frames) == 1 and frames[0][0] == 0x580 + self.node, frames
        return frames[0][1]

    def set(self, index, sub, value, size, now=None):
        """The abort's code, or 0; what else is sent behind the answer is kept in `behind`."""
        frames = self.sent(0x600 + self.node, set_request(index, sub, value, size), now)
        self.behind = frames[1:]
        assert frames[0][0] == 0x580 + self.node
        return code_of(frames[0][1], [0x60] + name(index, sub) + [0] * 4)

    def set_long(self, index, sub, value):
        """Eight bytes in two pieces."""
        row = little(value, 8)
        self.request(0x20, *name(index, sub))
        answer = self.request(0x00, *row[:7])
        if answer[0] == 0x80:
            return code_of(answer, None)
        frames = self.sent(0x600 + self.node, filled([0x1D, row[7]]))
        self.behind = frames[1:]
        return code_of(frames[0][1], [0x30] + [0] * 7)

    def ask(self, index, sub):
        """The value's bytes; an abort's code as a whole number."""
        answer = self.request(0x40, *name(index, sub))
        if answer[0] == 0x80:
            return code_of(answer, None)
        assert answer[1:4] == name(index, sub), answer
        if answer[0] != 0x41:
            size = {0x43: 4, 0x4B: 2, 0x4F: 1}[answer[0]]
            assert answer[4 + size:] == [0] * (4 - size), answer
            return answer[4:4 + size]
        assert answer[4:] == [8, 0, 0, 0], answer
        first = self.request(0x60)
        last = self.request(0x70)
        assert first[0] == 0x00 and last[0] == 0x1D and last[2:] == [0] * 6, (first, last)
        return first[1:] + last[1:2]

    def going(self, place, keys, when=0xFF, least=0, often=0, on=True):
        """Map K's list, its when, .3 and .5, and its id; nothing may be aborted."""
        self.lay_list(0x1A00 + place, keys)
        codes = [
            self.set(0x1800 + place, 2, when, 1),
            self.set(0x1800 + place, 3, least, 2),
            self.set(0x1800 + place, 5, often, 2),
        ]
        if on:
            codes.append(self.set(0x1800 + place, 1, 0x180 + 0x100 * place + self.node, 4))
        assert codes == [0] * len(codes), codes

    def coming(self, place, keys, when=0xFF, ident=None):
        self.lay_list(0x1600 + place, keys)
        ident = 0x200 + 0x100 * place + self.node if ident is None else ident
        codes = [self.set(0x1400 + place, 2, when, 1), self.set(0x1400 + place, 1, ident, 4)]
        assert codes == [0, 0], codes

    def lay_list(self, index, keys):
        codes = [self.set(index, at + 1, mapping(*key), 4) for at, key in enumerate(keys)]
        codes.append(self.set(index, 0, len(keys), 1))
        assert codes == [0] * len(codes), codes


def going_bus(keys=(BYTE,), when=0xFF, least=0, often=0, work=True, now=0):
    bus = Bus()
    bus.going(0, keys, when, least, often)
    if work:
        assert bus.work(now) == []
    return bus


def rights_bus(size):
    """A table with one entry of that size for each of RIGHTS, at 2000, by its place there."""
    return Bus(table=table_of(*[line(0x2000, at, size, held) for at, held in enumerate(RIGHTS)]))


def besides(node):
    """Each entry besides the table's: index, sub, size, rights, what it has at first."""
    rows = [
        (0x1000, 0, 4, "r", 0),
        (0x1001, 0, 1, "r", 0),
        (0x1005, 0, 4, "rw", 0x80),
        (0x1014, 0, 4, "rw", 0x80 + node),
        (0x1016, 0, 1, "r", 2),
        (0x1016, 1, 4, "rw", 0),
        (0x1016, 2, 4, "rw", 0),
        (0x1017, 0, 2, "rw", 0),
    ]
    for place in range(4):
        rows += [
            (0x1400 + place, 0, 1, "r", 2),
            (0x1400 + place, 1, 4, "rw", 0x80000200 + 0x100 * place + node),
            (0x1400 + place, 2, 1, "rw", 0xFF),
            (0x1800 + place, 0, 1, "r", 5),
            (0x1800 + place, 1, 4, "rw", 0x80000180 + 0x100 * place + node),
            (0x1800 + place, 2, 1, "rw", 0xFF),
            (0x1800 + place, 3, 2, "rw", 0),
            (0x1800 + place, 5, 2, "rw", 0),
        ]
        for index in (0x1600 + place, 0x1A00 + place):
            rows.append((index, 0, 1, "rw", 0))
            rows += [(index, sub, 4, "rw", 0) for sub in range(1, 9)]
    return rows


def filled(data):
    return list(data) + [0] * (8 - len(data))


def name(index, sub):
    return [index & 0xFF, index >> 8, sub]


def set_request(index, sub, value, size):
    return [0x23 + 4 * (4 - size)] + name(index, sub) + filled(little(value, size))[:4]


def abort(index, sub, code):
    return [0x80] + name(index, sub) + little(code, 4)


def code_of(answer, good):
    """0 where it's the good answer, else the code of the abort that it must be."""
    if answer == good:
        return 0
    assert answer[0] == 0x80, answer
    return number(answer[4:])
