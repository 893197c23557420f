"""A list of calls on one new node, and what they answer."""

from framenode.calls import DONE
from framenode.calls import REFUSED
from framenode.calls import cn_begin
from framenode.calls import cn_fault
from framenode.calls import cn_frame
from framenode.calls import cn_get
from framenode.calls import cn_set
from framenode.calls import cn_state
from framenode.calls import cn_take
from framenode.calls import cn_tick


class Reader:
    def __init__(self, numbers):
        self.numbers = numbers
        self.at = 0

    def has_more(self):
        return self.at < len(self.numbers)

    def read_number(self):
        self.at += 1
        return self.numbers[self.at - 1]

    def read_row(self):
        count = self.read_number()
        self.at += count
        return self.numbers[self.at - count:self.at]


def read_begin(reader):
    reader.read_number()
    number = reader.read_number()
    return cn_begin(number, reader.read_row())


def read_frame(node, reader):
    ident = reader.read_number()
    now = reader.read_number()
    return cn_frame(node, ident, now, reader.read_row())


def read_tick(node, reader):
    return cn_tick(node, reader.read_number())


def read_take(node, reader):
    return cn_take(node)


def read_get(node, reader):
    index = reader.read_number()
    return cn_get(node, index, reader.read_number())


def read_set(node, reader):
    index = reader.read_number()
    sub = reader.read_number()
    return cn_set(node, index, sub, reader.read_row())


def read_fault(node, reader):
    code = reader.read_number()
    return cn_fault(node, code, reader.read_number())


def read_state(node, reader):
    return cn_state(node)


# By the call's number; cn_begin isn't among them, for it has no node yet and stands first alone.
CALLS = {
    1: read_frame,
    2: read_tick,
    3: read_take,
    4: read_get,
    5: read_set,
    6: read_fault,
    7: read_state,
}


def answers(calls):
    reader = Reader(calls)
    node = read_begin(reader)
    if node is None:
        return [1, REFUSED]
    given = [1, DONE]
    while reader.has_more():
        answer = CALLS[reader.read_number()](node, reader)
        given.append(len(answer))
        given.extend(answer)
    return given
