"""Frames that come, by their kinds."""

from framenode.entries import MARK
from framenode.entries import value_of
from framenode.hearts import take_beat
from framenode.maps import coming_place
from framenode.maps import take_coming
from framenode.maps import take_mark
from framenode.node import AT_WORK
from framenode.node import BEFORE_WORK
from framenode.node import STOPPED
from framenode.request import take_request


# The id alone picks the kind: a frame that its kind passes over isn't tried as a later one.
def take_frame(node, ident, data):
    if ident == 0:
        if len(data) == 2 and data[1] in (0, node.number):
            take_command(node, data[0])
    elif ident == 0x600 + node.number:
        if len(data) == 8 and node.state != STOPPED:
            take_request(node, data)
    elif ident == value_of(node.entries, MARK, 0):
        if node.state == AT_WORK:
            take_mark(node)
    elif coming_place(node, ident) is not None:
        if node.state == AT_WORK:
            take_coming(node, coming_place(node, ident), data)
    elif len(data) == 1:
        take_beat(node, ident)


def take_command(node, command):
    if command == 1:
        begin_work(node)
    elif command == 2:
        node.state = STOPPED
    elif command == 0x80:
        node.state = BEFORE_WORK
    elif command == 0x81:
        node.begin_all()
    elif command == 0x82:
        node.begin_besides()


def begin_work(node):
    if node.state != AT_WORK:
        node.state = AT_WORK
        node.count_work()
