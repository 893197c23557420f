"""Requests: entries set and asked over the bus, at once or in pieces."""

from framenode.entries import FOLLOWED
from framenode.entries import HEART
from framenode.entries import has_index
from framenode.entries import key_of
from framenode.little import filled
from framenode.little import number_of
from framenode.little import row_of
from framenode.maps import change
from framenode.taken import TAKEN
from framenode.taken import why_not_taken

NO_INDEX = 0x06020000
NO_SUB = 0x06090011
NOT_READABLE = 0x06010001
NOT_WRITABLE = 0x06010002
TOO_LONG = 0x06070012
TOO_SHORT = 0x06070013
NOT_AWAITED = 0x05040001
WRONG_TURN = 0x05030000
TURN = 0x10
FOUND = 0
PIECE_BYTES = 7


# What's in hand. row: of a set, what has come; of an ask, what's left of the value as it was when asked.
class Hand:
    def __init__(self, is_set, key, row):
        self.is_set = is_set
        self.key = key
        self.row = row
        self.turn = 0


def take_request(node, data):
    kind = data[0] >> 5
    if kind == 0:
        take_piece(node, data)
    elif kind == 1:
        begin_set(node, data)
    elif kind == 2:
        begin_ask(node, data)
    elif kind == 3:
        give_piece(node, data)
    elif kind == 4:
        node.hand = None
    else:
        abort_hand(node, NOT_AWAITED)


def reply(node, data):
    node.send(0x580 + node.number, filled(data, 8))


def name_of(key):
    return row_of(key >> 8, 2) + [key & 0xFF]


def abort(node, key, code):
    node.hand = None
    reply(node, [0x80] + name_of(key) + row_of(code, 4))


def abort_hand(node, code):
    abort(node, 0 if node.hand is None else node.hand.key, code)


def asked_key(data):
    return key_of(number_of(data[1:3]), data[3])


def why_not_found(entries, key):
    if key in entries:
        return FOUND
    return NO_SUB if has_index(entries, key >> 8) else NO_INDEX


def why_not_long(count, size):
    if count > size:
        return TOO_LONG
    return TOO_SHORT if count < size else FOUND


def begin_set(node, data):
    key = asked_key(data)
    code = why_not_found(node.entries, key)
    if code == FOUND and not node.entries[key].writable:
        code = NOT_WRITABLE
    if code == FOUND:
        code = why_not_announced(node.entries[key].size, data)
    if code != FOUND:
        abort(node, key, code)
    elif (data[0] & 2) != 0:
        node.hand = None
        finish_set(node, key, data[4:4 + node.entries[key].size], [0x60] + name_of(key))
    else:
        node.hand = Hand(True, key, [])
        reply(node, [0x60] + name_of(key))


# Without bit 0 nothing is said of how many bytes come: at once it's what fits, in pieces it shows at the last.
def why_not_announced(size, data):
    if (data[0] & 2) == 0:
        return why_not_long(number_of(data[4:8]), size) if (data[0] & 1) != 0 else FOUND
    if (data[0] & 1) == 0:
        return why_not_long(min(size, 4), size)
    return why_not_long(4 - ((data[0] >> 2) & 3), size)


def finish_set(node, key, row, answer):
    value = number_of(row)
    code = why_not_taken(node.entries, key, value)
    if code != TAKEN:
        abort(node, key, code)
        return
    set_over_bus(node, key, value)
    reply(node, answer)


# To be set at all, even to the same value, makes a heart's time begin anew.
def set_over_bus(node, key, value):
    change(node, key, value)
    if key == key_of(HEART, 0):
        node.heart_from = node.now
    if key >> 8 == FOLLOWED:
        node.heard_at[(key & 0xFF) - 1] = None


def why_not_piece(node, data, is_set):
    if node.hand is None or node.hand.is_set != is_set:
        return NOT_AWAITED
    return WRONG_TURN if (data[0] & TURN) != node.hand.turn else FOUND


def take_piece(node, data):
    code = why_not_piece(node, data, True)
    if code != FOUND:
        abort_hand(node, code)
        return
    hand = node.hand
    size = node.entries[hand.key].size
    hand.row.extend(data[1:1 + PIECE_BYTES - ((data[0] >> 1) & 7)])
    answer = [0x20 + hand.turn]
    hand.turn = TURN - hand.turn
    if len(hand.row) > size:
        abort(node, hand.key, TOO_LONG)
    elif (data[0] & 1) == 0:
        reply(node, answer)
    elif len(hand.row) < size:
        abort(node, hand.key, TOO_SHORT)
    else:
        node.hand = None
        finish_set(node, hand.key, hand.row, answer)


def begin_ask(node, data):
    key = asked_key(data)
    code = why_not_found(node.entries, key)
    if code == FOUND and not node.entries[key].readable:
        code = NOT_READABLE
    if code != FOUND:
        abort(node, key, code)
        return
    size = node.entries[key].size
    row = row_of(node.entries[key].value, size)
    if size <= 4:
        node.hand = None
        reply(node, [0x43 + 4 * (4 - size)] + name_of(key) + row)
    else:
        node.hand = Hand(False, key, row)
        reply(node, [0x41] + name_of(key) + [size])


def give_piece(node, data):
    code = why_not_piece(node, data, False)
    if code != FOUND:
        abort_hand(node, code)
        return
    hand = node.hand
    piece = hand.row[:PIECE_BYTES]
    hand.row = hand.row[PIECE_BYTES:]
    is_last = len(hand.row) == 0
    head = hand.turn + 2 * (PIECE_BYTES - len(piece)) + (1 if is_last else 0)
    hand.turn = TURN - hand.turn
    if is_last:
        node.hand = None
    reply(node, [head] + piece)
