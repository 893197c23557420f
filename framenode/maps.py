"""Maps: entries that come in and go out together."""

from framenode.entries import COMING
from framenode.entries import COMING_LIST
from framenode.entries import GOING
from framenode.entries import GOING_LIST
from framenode.entries import MAPS
from framenode.entries import OFF
from framenode.entries import WHEN_CHANGED
from framenode.entries import value_of
from framenode.little import number_of
from framenode.little import row_of
from framenode.node import AT_WORK


def mapped_keys(entries, index):
    count = value_of(entries, index, 0)
    return [value_of(entries, index, sub) >> 8 for sub in range(1, count + 1)]


def mapped_bytes(entries, index):
    return sum([entries[key].size for key in mapped_keys(entries, index)])


# Every change of a value goes through here, so that no going map misses one.
def change(node, key, value):
    entry = node.entries[key]
    if entry.value == value:
        return
    entry.value = value
    for place in range(MAPS):
        if key in mapped_keys(node.entries, GOING_LIST + place):
            node.changed[place] = True


# Which coming map has this id: the first that's on, or None.
def coming_place(node, ident):
    for place in range(MAPS):
        if value_of(node.entries, COMING + place, 1) == ident:
            return place
    return None


def take_coming(node, place, data):
    if len(data) < mapped_bytes(node.entries, COMING_LIST + place):
        node.send_fault(0x8210, 4)
    elif value_of(node.entries, COMING + place, 2) < WHEN_CHANGED:
        node.kept[place] = list(data)
    else:
        spread(node, place, data)


def spread(node, place, data):
    at = 0
    for key in mapped_keys(node.entries, COMING_LIST + place):
        size = node.entries[key].size
        change(node, key, number_of(data[at:at + size]))
        at += size


def take_mark(node):
    node.marks = (node.marks + 1) & 0xFFFFFFFF
    for place in range(MAPS):
        take_kept(node, place)
    for place in range(MAPS):
        if is_on(node, place) and is_marked(node, place):
            send_map(node, place)


# What's mapped may have become more since the frame came: only then is it lost.
def take_kept(node, place):
    data = node.kept[place]
    node.kept[place] = None
    if data is not None and len(data) >= mapped_bytes(node.entries, COMING_LIST + place):
        spread(node, place, data)


def is_on(node, place):
    return value_of(node.entries, GOING + place, 1) < OFF


def is_marked(node, place):
    when = value_of(node.entries, GOING + place, 2)
    if when == 0:
        return node.changed[place]
    return when < WHEN_CHANGED and node.marks % when == 0


def send_map(node, place):
    data = []
    for key in mapped_keys(node.entries, GOING_LIST + place):
        data.extend(row_of(node.entries[key].value, node.entries[key].size))
    node.send(value_of(node.entries, GOING + place, 1), data)
    node.changed[place] = False
    node.sent_at[place] = node.now


def send_due_maps(node):
    if node.state != AT_WORK:
        return
    for place in range(MAPS):
        if is_on(node, place) and is_due(node, place):
            send_map(node, place)


def is_due(node, place):
    if value_of(node.entries, GOING + place, 2) < WHEN_CHANGED:
        return False
    sent = node.sent_at[place]
    if not node.changed[place] and not is_overdue(node, place):
        return False
    return sent is None or node.now - sent >= value_of(node.entries, GOING + place, 3)


def is_overdue(node, place):
    longest = value_of(node.entries, GOING + place, 5)
    sent = node.sent_at[place]
    since = node.work_from if sent is None else sent
    return longest != 0 and node.now - since >= longest
