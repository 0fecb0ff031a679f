"""The editor: a tree, the disk below it, and the file that its deeds are appended to."""

from texttrees.copies import copy_of
from texttrees.deeds import HIGHEST_BYTE, do_deed, refusal_of_deed, tree_made_by
from texttrees.disks import Disk
from texttrees.files import HEAD_SIZE, found_file, head, new_file, number_behind, number_of, tree_said
from texttrees.records import record, record_size
from texttrees.refusals import BEYOND, GRANTED, NO_ROOM, NONE_COUNTS, NOT_NOW, NOWHERE, WRONG_POWER

LONGEST_FILE = 5000


def refused(refusal):
    return [-refusal]


class Editor:
    def __init__(self):
        self.tree = tree_made_by([])
        # The deeds that weren't lost. Somebody watches and remembers them: nothing here is taken from the disk.
        self.remembered = []
        self.disk = Disk()
        self.powered = True
        self.copying = False
        self.safe = 0
        self.use_new_file(0, 1)

    def use_new_file(self, which, number):
        written = new_file(number, self.tree)
        self.disk.wipe(which)
        self.disk.store(which, 0, written)
        self.used = which
        self.number = number
        self.size = len(written)

    # The deed is None where undo or redo has no state to go to.
    def do(self, deed):
        refusal = self.refusal_of(deed)
        if refusal != GRANTED:
            return refused(refusal)
        do_deed(self.tree, deed)
        self.remembered.append(deed)
        self.disk.send(self.used, self.size, record(deed))
        self.size = self.size + record_size(deed)
        return [self.tree.now, len(self.tree.text_now()), self.tree.deeds, self.size]

    def refusal_of(self, deed):
        if not self.powered:
            return WRONG_POWER
        if self.copying:
            return NOT_NOW
        if deed is None:
            return NOWHERE
        refusal = refusal_of_deed(self.tree, deed)
        if refusal == GRANTED and self.size + record_size(deed) > LONGEST_FILE:
            return NO_ROOM
        return refusal

    def settle(self):
        self.disk.arrive()
        self.safe = self.tree.deeds

    def flush(self):
        if not self.powered:
            return refused(WRONG_POWER)
        many = len(self.disk.writes)
        self.settle()
        return [many, self.safe]

    def begin_copy(self):
        if not self.powered:
            return refused(WRONG_POWER)
        if self.copying:
            return refused(NOT_NOW)
        self.settle()
        other = 1 - self.used
        self.disk.wipe(other)
        # The head's place stays free: until turn writes it there the other file must not count.
        written = copy_of(self.tree)
        self.disk.send(other, HEAD_SIZE, written)
        self.copying = True
        return [HEAD_SIZE + len(written)]

    def turn(self):
        if not self.powered:
            return refused(WRONG_POWER)
        if not self.copying:
            return refused(NOT_NOW)
        self.settle()
        self.used = 1 - self.used
        self.number = number_behind(self.number)
        self.size = len(self.disk.files[self.used])
        self.disk.send(self.used, 0, head(self.number))
        self.copying = False
        return [self.size]

    # The rest stays as it is until start: so long it is told as ahead of it.
    def lose_power(self, arrived):
        if not self.powered:
            return refused(WRONG_POWER)
        many = len(self.disk.writes)
        self.disk.arrive_in_part(arrived)
        self.powered = False
        return [many]

    def start_anew(self):
        if self.powered:
            return refused(WRONG_POWER)
        found = found_file(self.disk.files)
        if found is None:
            return refused(NONE_COUNTS)
        written = self.disk.files[found]
        self.tree = tree_said(written)
        self.remembered = self.remembered[:self.tree.deeds]
        self.safe = self.tree.deeds
        self.use_new_file(1 - found, number_behind(number_of(written)))
        self.copying = False
        self.powered = True
        return [self.tree.deeds, self.tree.now, len(self.tree.text_now()), found]

    def spoil(self, which, place, byte):
        if self.powered:
            return refused(WRONG_POWER)
        if place >= len(self.disk.files[which]) or byte > HIGHEST_BYTE:
            return refused(BEYOND)
        old = self.disk.files[which][place]
        self.disk.store(which, place, [byte])
        return [old]
