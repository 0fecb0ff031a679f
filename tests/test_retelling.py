"""The answers to many lists of calls, held against the document's words told a second time, plainly and slowly."""

import random
import unittest

from asking import change, copy, flush, forget, goto, joined, keep, parted, redo, tell, turn, undo
from texttrees.copies import copy_of
from texttrees.editing import Editor
from texttrees.editors import answers


class Retold:
    """States are rows [number, made of or None, change or None, text, kept]; pairs stand latest first."""

    def __init__(self):
        self.rows = [[0, None, None, [], 0]]
        self.pairs = []
        self.now, self.given, self.deeds = 0, 1, 0
        self.size, self.on_way, self.copying = 19, 0, False

    def row(self, number):
        return next((row for row in self.rows if row[0] == number), None)

    def ends(self):
        parents = [row[1] for row in self.rows]
        return [row for row in self.rows if row[0] not in parents]

    def pair(self, state, child):
        self.pairs = [(state, child)] + [pair for pair in self.pairs if pair[0] != state]

    def away(self, row):
        self.rows = [other for other in self.rows if other is not row]
        self.pairs = [pair for pair in self.pairs if row[0] not in pair]

    def pass_to(self, row):
        if row[1] is not None:
            self.pass_to(self.row(row[1]))
            self.pair(row[1], row[0])

    def deed(self, long):
        # No 60 calls fill a file, nor do 65535 deeds: those refusals are tested in test_disk.
        self.size += long
        self.on_way += 1
        self.deeds += 1

    def answer(self):
        return [self.now, len(self.row(self.now)[3]), self.deeds, self.size]

    def change(self, place, out, put):
        text = self.row(self.now)[3]
        if place > len(text) or out > len(text) - place or [byte for byte in put if byte > 255]:
            return [-1]
        new = [text[k] for k in range(place)] + put + [text[k] for k in range(place + out, len(text))]
        if len(new) > 80 or self.given == 40:
            return [-5]
        self.deed(7 + len(put))
        self.rows.append([self.given, self.now, [place, out] + put, new, 0])
        self.pair(self.now, self.given)
        self.now = self.given
        self.given += 1
        return self.answer()

    def go(self, row, refusal):
        if row is None:
            return [refusal]
        self.deed(6)
        self.pass_to(row)
        self.now = row[0]
        return self.answer()

    def undo(self):
        return self.go(self.row(self.row(self.now)[1]), -7)

    def redo(self):
        wanted = [pair[1] for pair in self.pairs if pair[0] == self.now]
        wanted += sorted([row[0] for row in self.rows if row[1] == self.now], reverse=True)
        return self.go(self.row(wanted[0]) if wanted else None, -7)

    def goto(self, state):
        return self.go(self.row(state), -2)

    def keep(self, state, kept):
        if self.row(state) is None:
            return [-2]
        self.deed(7)
        self.row(state)[4] = kept
        return self.answer()

    def forget(self, many):
        if many == 0 or many > 255:
            return [-1]
        self.deed(6)
        while len(self.rows) > many:
            free = [row for row in self.ends() if row[1] is not None and row[0] != self.now and not row[4]]
            if not free:
                break
            self.away(min(free))
        while len(self.rows) > many:
            first = self.rows[0]
            made = [row for row in self.rows if row[1] == first[0]]
            if first[0] == self.now or first[4] or len(made) != 1:
                break
            self.away(first)
            made[0][1] = made[0][2] = None
            self.rows.sort(key=lambda row: (row[1] is not None, row[0]))
        return self.answer()

    def flush(self):
        many, self.on_way = self.on_way, 0
        return [many, self.deeds]

    def bodies(self):
        first = self.rows[0]
        others = [[6, row[0], row[1], row[4]] + row[2] for row in self.rows[1:]]
        pairs = [number for pair in self.pairs for number in pair]
        return [[5, first[0], first[4]] + first[3]] + others + [
            [7, self.now, self.given, self.deeds % 256, self.deeds // 256] + pairs]

    def long(self):
        return 3 + sum(len(body) + 4 for body in self.bodies())

    def copy(self):
        self.copying = True
        self.on_way = 1
        return [self.long()]

    def turn(self):
        if not self.copying:
            return [-8]
        self.copying = False
        self.size = self.long()
        self.on_way = 1
        return [self.size]

    def tell(self, call):
        names = ("change", "undo", "redo", "goto", "keep", "forget", "flush", "copy", "turn")
        if self.copying and call[0] not in (6, 8):
            return [-8]
        given = [call[1], call[2], call[4:]] if call[0] == 0 else call[1:]
        return getattr(self, names[call[0]])(*given)


def any_call(source, wild):
    state = source.randrange(12 if wild else 45)
    sort = source.choice([0, 0, 0, 0, 1, 1, 2, 2, 3, 3, 4, 5, 6, 7, 8] if wild else [0, 0, 0, 0, 0, 0, 1, 1, 2, 3])
    if sort == 0:
        put = [source.choice([1, 2, 255]) for k in range(source.choice([0, 1, 3, 30]))]
        return change(source.randrange(4), source.choice([0, 0, 1, 20]), put)
    return [None, undo(), redo(), goto(state), keep(state, source.randrange(2)), forget(source.randrange(1, 9)),
            flush(), copy(), turn()][sort]


class Retelling(unittest.TestCase):
    def test_answers_are_those_of_the_words(self):
        for seed in range(1000):
            source = random.Random(seed)
            calls = [any_call(source, seed % 4 > 0) for k in range(60)]
            retold = Retold()
            self.assertEqual(parted(answers(joined(calls))), [retold.tell(call) for call in calls], seed)

    def test_copies_are_those_of_the_words(self):
        for seed in range(200):
            source = random.Random(seed)
            retold, editor = Retold(), Editor()
            for k in range(60):
                call = any_call(source, seed % 4 > 0)
                retold.tell(call)
                tell(editor, call)
                written = [[len(body), 255 - len(body)] + body + [sum(body) % 256, 255] for body in retold.bodies()]
                self.assertEqual(copy_of(editor.tree), joined(written), seed)


if __name__ == "__main__":
    unittest.main()
