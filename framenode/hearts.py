"""Hearts: the own one, and those that 1016 follows."""

from framenode.entries import FOLLOWED
from framenode.entries import HEART
from framenode.entries import value_of


def followed_node(value):
    return (value >> 16) & 0x7F


def followed_time(value):
    return value & 0xFFFF


# The two followed hearts may be of one node: then both beat.
def take_beat(node, ident):
    for place in range(2):
        value = value_of(node.entries, FOLLOWED, place + 1)
        is_followed = followed_node(value) != 0 and followed_time(value) != 0
        if is_followed and ident == 0x700 + followed_node(value):
            node.heard_at[place] = node.now


def watch_followed(node):
    for place in range(2):
        heard = node.heard_at[place]
        longest = followed_time(value_of(node.entries, FOLLOWED, place + 1))
        if heard is not None and node.now - heard > longest:
            node.heard_at[place] = None
            node.send_fault(0x8130, 4)


def beat_own(node):
    often = value_of(node.entries, HEART, 0)
    if often != 0 and node.now - node.heart_from >= often:
        node.heart_from = node.now
        node.send(0x700 + node.number, [node.state])
