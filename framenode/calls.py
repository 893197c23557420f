"""The calls on a node. Each but cn_begin gives back the row of numbers that it answers."""

from framenode.entries import is_table_right
from framenode.frames import take_frame
from framenode.hearts import beat_own
from framenode.hearts import watch_followed
from framenode.little import filled
from framenode.maps import send_due_maps
from framenode.node import Node

DONE = 0
NONE_THERE = -1
REFUSED = -2
MOST_NUMBER = 127
MOST_IDENT = 0x7FF
MOST_BYTES = 8


# The new node, or None where it's refused.
def cn_begin(number, table):
    if not 1 <= number <= MOST_NUMBER or not is_table_right(table):
        return None
    return Node(number, table)


def cn_frame(node, ident, now, data):
    if not 0 <= ident <= MOST_IDENT or len(data) > MOST_BYTES:
        return [REFUSED]
    node.now = max(node.now, now)
    take_frame(node, ident, data)
    end_call(node)
    return [DONE]


def cn_tick(node, now):
    node.now = max(node.now, now)
    end_call(node)
    return [DONE]


def end_call(node):
    watch_followed(node)
    beat_own(node)
    send_due_maps(node)


def cn_take(node):
    if len(node.row) == 0:
        return [NONE_THERE]
    frame = node.row.pop(0)
    return [len(frame[1]), frame[0]] + filled(frame[1], MOST_BYTES)
