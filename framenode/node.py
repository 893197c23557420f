"""The node: what it keeps from call to call, how it begins anew, and its row of frames."""

from framenode.entries import FAULT_BITS
from framenode.entries import FAULT_IDENT
from framenode.entries import MAPS
from framenode.entries import OFF
from framenode.entries import besides_entries
from framenode.entries import key_of
from framenode.entries import table_entries
from framenode.entries import value_of
from framenode.little import filled
from framenode.little import row_of

BEFORE_WORK = 0x7F
AT_WORK = 5
STOPPED = 4
ROW_FRAMES = 32


class Node:
    def __init__(self, number, table):
        self.number = number
        self.table = list(table)
        self.now = 0
        self.row = []
        self.begin_all()

    def begin_all(self):
        self.entries = table_entries(self.table)
        self.begin_besides()

    def begin_besides(self):
        self.entries.update(besides_entries(self.number))
        self.state = BEFORE_WORK
        self.hand = None
        self.kept = [None] * MAPS
        self.changed = [False] * MAPS
        self.heard_at = [None, None]
        self.heart_from = self.now
        self.count_work()
        self.send(0x700 + self.number, [0])

    # sent_at holds None where a map hasn't been sent since work began.
    def count_work(self):
        self.marks = 0
        self.work_from = self.now
        self.sent_at = [None] * MAPS

    def send(self, ident, data):
        if len(self.row) < ROW_FRAMES:
            self.row.append((ident, data))

    def send_fault(self, code, bit):
        bits = self.entries[key_of(FAULT_BITS, 0)]
        bits.value = bits.value | 1 | (1 << bit)
        self.tell_fault(code)

    def clear_faults(self):
        self.entries[key_of(FAULT_BITS, 0)].value = 0
        self.tell_fault(0)

    def tell_fault(self, code):
        ident = value_of(self.entries, FAULT_IDENT, 0)
        if self.state != STOPPED and ident < OFF:
            self.send(ident, filled(row_of(code, 2) + [value_of(self.entries, FAULT_BITS, 0)], 8))
