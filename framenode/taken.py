"""Which values aren't taken over the bus, and the abort's code for each; 0 for a value that's taken."""

from framenode.entries import COMING
from framenode.entries import COMING_LIST
from framenode.entries import FAULT_IDENT
from framenode.entries import FOLLOWED
from framenode.entries import GOING
from framenode.entries import GOING_LIST
from framenode.entries import IDENT
from framenode.entries import MAPS
from framenode.entries import MARK
from framenode.entries import OFF
from framenode.entries import WHEN_CHANGED
from framenode.entries import value_of

TAKEN = 0
WRONG_VALUE = 0x06090030
NOT_NOW = 0x08000022
NOT_MAPPABLE = 0x06040041
TOO_MUCH_MAPPED = 0x06040042
BITS_11_TO_30 = 0x7FFFF800
BITS_23_TO_31 = 0xFF800000


def why_not_taken(entries, key, value):
    index = key >> 8
    sub = key & 0xFF
    place = index % MAPS
    if index == MARK:
        return wrong_if(value > IDENT)
    if index == FAULT_IDENT:
        return wrong_if((value & BITS_11_TO_30) != 0)
    if index == FOLLOWED:
        return wrong_if((value & BITS_23_TO_31) != 0)
    if index - place in (COMING, GOING):
        return why_not_way(entries[key].value, sub, value)
    if index - place == COMING_LIST:
        return why_not_listed(entries, COMING + place, key, value)
    if index - place == GOING_LIST:
        return why_not_listed(entries, GOING + place, key, value)
    return TAKEN


def wrong_if(is_wrong):
    return WRONG_VALUE if is_wrong else TAKEN


# The map's id and when; .3 and .5 take all.
def why_not_way(present, sub, value):
    if sub == 1:
        return why_not_ident(present, value)
    if sub == 2:
        return wrong_if(0xF0 < value < WHEN_CHANGED)
    return TAKEN


def why_not_ident(present, value):
    if (value & BITS_11_TO_30) != 0 or not 0x181 <= (value & IDENT) <= 0x57F:
        return WRONG_VALUE
    if present < OFF and value < OFF and present != value:
        return NOT_NOW
    return TAKEN


def why_not_listed(entries, way, key, value):
    index = key >> 8
    sub = key & 0xFF
    if value_of(entries, way, 1) < OFF:
        return NOT_NOW
    if sub == 0:
        return why_not_count(entries, index, value)
    if value_of(entries, index, 0) != 0:
        return NOT_NOW
    return TAKEN if is_mappable(entries, way, value) else NOT_MAPPABLE


def why_not_count(entries, index, count):
    if count > 8:
        return WRONG_VALUE
    listed = [value_of(entries, index, sub) for sub in range(1, count + 1)]
    if 0 in listed or sum([value & 0xFF for value in listed]) > 64:
        return TOO_MUCH_MAPPED
    return TAKEN


def is_mappable(entries, way, value):
    entry = entries.get(value >> 8)
    if entry is None or not entry.mappable or entry.size * 8 != (value & 0xFF):
        return False
    return entry.readable if way >= GOING else entry.writable
