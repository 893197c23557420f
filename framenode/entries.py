"""The dictionary: the table's lines, the entries besides, and what they have at first."""

from framenode.little import number_of

LINE_BYTES = 8
MOST_LINES = 64
TABLE_FIRST = 0x2000
TABLE_LAST = 0x9FFF
MOST_SUB = 255
MAPS = 4
OFF = 0x80000000
IDENT = 0x7FF
WHEN_CHANGED = 0xFE

FAULT_BITS = 0x1001
MARK = 0x1005
FAULT_IDENT = 0x1014
FOLLOWED = 0x1016
HEART = 0x1017
COMING = 0x1400
COMING_LIST = 0x1600
GOING = 0x1800
GOING_LIST = 0x1A00


class Entry:
    def __init__(self, size, readable, writable, mappable, value):
        self.size = size
        self.readable = readable
        self.writable = writable
        self.mappable = mappable
        self.value = value


# The same three bytes, in the same order, stand in what a map lists: there they are the value above its lowest byte.
def key_of(index, sub):
    return index * 256 + sub


def value_of(entries, index, sub):
    return entries[key_of(index, sub)].value


# The entry, or None. A sub that isn't a byte would make the key of an entry at another index.
def entry_at(entries, index, sub):
    if not 0 <= sub <= MOST_SUB:
        return None
    return entries.get(key_of(index, sub))


def is_table_index(index):
    return TABLE_FIRST <= index <= TABLE_LAST


def has_index(entries, index):
    return any([key >> 8 == index for key in entries])


def is_table_right(table):
    if len(table) > MOST_LINES * LINE_BYTES:
        return False
    last = -1
    for line in lines_of(table):
        key = line_key(line)
        if not is_line_right(line) or key <= last:
            return False
        last = key
    return True


def lines_of(table):
    return [table[at:at + LINE_BYTES] for at in range(0, len(table), LINE_BYTES)]


def line_key(line):
    return key_of(number_of(line[0:2]), line[2])


def is_line_right(line):
    if not is_table_index(number_of(line[0:2])):
        return False
    if line[3] not in (1, 2, 4, 8):
        return False
    return max(line[4:7]) <= 1 and line[7] == 0


def table_entries(table):
    entries = {}
    for line in lines_of(table):
        entries[line_key(line)] = Entry(line[3], line[4] == 1, line[5] == 1, line[6] == 1, 0)
    return entries


def besides_entries(number):
    entries = {}
    put(entries, 0x1000, 0, 4, "r", 0)
    put(entries, FAULT_BITS, 0, 1, "r", 0)
    put(entries, MARK, 0, 4, "rw", 0x80)
    put(entries, FAULT_IDENT, 0, 4, "rw", 0x80 + number)
    put(entries, FOLLOWED, 0, 1, "r", 2)
    put(entries, FOLLOWED, 1, 4, "rw", 0)
    put(entries, FOLLOWED, 2, 4, "rw", 0)
    put(entries, HEART, 0, 2, "rw", 0)
    for place in range(MAPS):
        put_coming(entries, place, number)
        put_going(entries, place, number)
    return entries


def put(entries, index, sub, size, rights, value):
    entries[key_of(index, sub)] = Entry(size, "r" in rights, "w" in rights, False, value)


def put_coming(entries, place, number):
    put(entries, COMING + place, 0, 1, "r", 2)
    put(entries, COMING + place, 1, 4, "rw", OFF + 0x200 + 0x100 * place + number)
    put(entries, COMING + place, 2, 1, "rw", 0xFF)
    put_list(entries, COMING_LIST + place)


def put_going(entries, place, number):
    put(entries, GOING + place, 0, 1, "r", 5)
    put(entries, GOING + place, 1, 4, "rw", OFF + 0x180 + 0x100 * place + number)
    put(entries, GOING + place, 2, 1, "rw", 0xFF)
    put(entries, GOING + place, 3, 2, "rw", 0)
    put(entries, GOING + place, 5, 2, "rw", 0)
    put_list(entries, GOING_LIST + place)


def put_list(entries, index):
    put(entries, index, 0, 1, "rw", 0)
    for sub in range(1, 9):
        put(entries, index, sub, 4, "rw", 0)
