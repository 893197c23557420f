"""The calls on a node. Each but cn_begin gives back the row of numbers that it answers."""

from framenode.entries import entry_at
from framenode.entries import is_table_index
from framenode.entries import is_table_right
from framenode.entries import key_of
from framenode.frames import take_frame
from framenode.hearts import beat_own
from framenode.hearts import watch_followed
from framenode.little import filled
from framenode.little import number_of
from framenode.little import row_of
from framenode.maps import change
from framenode.maps import send_due_maps
from framenode.node import Node

DONE = 0
NONE_THERE = -1
REFUSED = -2
MOST_NUMBER = 127
MOST_IDENT = 0x7FF
MOST_BYTES = 8
MOST_CODE = 0xFFFF
MOST_BIT = 7


# The new node, or None where it's refused.
def cn_begin(number, table):
    if not 1 <= number <= MOST_NUMBER or not is_table_right(table):
        return None
    return Node(number, table)


def cn_frame(node, ident, now, data):
    if not 0 <= ident <= MOST_IDENT or len(data) > MOST_BYTES:
        return [REFUSED]
    node.now = max(node.now, now)
    take_frame(node, ident, data)
    end_call(node)
    return [DONE]


def cn_tick(node, now):
    node.now = max(node.now, now)
    end_call(node)
    return [DONE]


def end_call(node):
    watch_followed(node)
    beat_own(node)
    send_due_maps(node)


def cn_take(node):
    if len(node.row) == 0:
        return [NONE_THERE]
    frame = node.row.pop(0)
    return [len(frame[1]), frame[0]] + filled(frame[1], MOST_BYTES)


def cn_get(node, index, sub):
    entry = entry_at(node.entries, index, sub)
    if entry is None:
        return [NONE_THERE]
    return [entry.size] + filled(row_of(entry.value, entry.size), MOST_BYTES)


# The device sets its own values, so what may be done over the bus says nothing here; and time doesn't go on by it.
def cn_set(node, index, sub, row):
    entry = entry_at(node.entries, index, sub)
    if entry is None or not is_table_index(index):
        return [NONE_THERE]
    if len(row) != entry.size:
        return [REFUSED]
    change(node, key_of(index, sub), number_of(row))
    send_due_maps(node)
    return [DONE]


def cn_fault(node, code, bit):
    if not 0 <= code <= MOST_CODE or not 0 <= bit <= MOST_BIT:
        return [REFUSED]
    if code == 0:
        node.clear_faults()
    else:
        node.send_fault(code, bit)
    return [DONE]


def cn_state(node):
    return [node.state]
