"""The editor: a tree, the disk below it, and the file that its deeds are appended to."""

from texttrees.copies import HEAD_SIZE, copy_of, head, number_behind
from texttrees.deeds import do_deed, refusal_of_deed
from texttrees.disks import Disk
from texttrees.records import record, record_size
from texttrees.refusals import GRANTED, NO_POWER, NO_ROOM, NOT_NOW, NOWHERE
from texttrees.trees import Tree

LONGEST_FILE = 5000


def refused(refusal):
    return [-refusal]


class Editor:
    def __init__(self):
        self.tree = Tree()
        self.disk = Disk()
        self.powered = True
        self.copying = False
        self.used = 0
        self.number = 1
        self.safe = 0
        begin = head(self.number) + copy_of(self.tree)
        self.disk.store(self.used, 0, begin)
        self.size = len(begin)

    # The deed is None where undo or redo has no state to go to.
    def do(self, deed):
        refusal = self.refusal_of(deed)
        if refusal != GRANTED:
            return refused(refusal)
        do_deed(self.tree, deed)
        self.disk.send(self.used, self.size, record(deed))
        self.size = self.size + record_size(deed)
        return [self.tree.now, len(self.tree.text_now()), self.tree.deeds, self.size]

    def refusal_of(self, deed):
        if not self.powered:
            return NO_POWER
        if self.copying:
            return NOT_NOW
        if deed is None:
            return NOWHERE
        refusal = refusal_of_deed(self.tree, deed)
        if refusal == GRANTED and self.size + record_size(deed) > LONGEST_FILE:
            return NO_ROOM
        return refusal

    def settle(self):
        self.disk.arrive()
        self.safe = self.tree.deeds

    def flush(self):
        if not self.powered:
            return refused(NO_POWER)
        many = len(self.disk.writes)
        self.settle()
        return [many, self.safe]

    def begin_copy(self):
        if not self.powered:
            return refused(NO_POWER)
        if self.copying:
            return refused(NOT_NOW)
        self.settle()
        other = 1 - self.used
        self.disk.wipe(other)
        # The head's place stays free: until turn writes it there the other file must not count.
        written = copy_of(self.tree)
        self.disk.send(other, HEAD_SIZE, written)
        self.copying = True
        return [HEAD_SIZE + len(written)]

    def turn(self):
        if not self.powered:
            return refused(NO_POWER)
        if not self.copying:
            return refused(NOT_NOW)
        self.settle()
        self.used = 1 - self.used
        self.number = number_behind(self.number)
        self.size = len(self.disk.files[self.used])
        self.disk.send(self.used, 0, head(self.number))
        self.copying = False
        return [self.size]
