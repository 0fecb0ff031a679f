"""The answers to many lists of calls, held against the document's words told a second time, plainly and slowly."""

import random
import re
import unittest

from asking import (change, copy, file, flush, forget, goto, joined, keep, parted, power, redo, spoil, start, state,
                    tell, text, tree, turn, undo, was)
from texttrees.copies import copy_of
from texttrees.editing import Editor
from texttrees.editors import answers

NAMES = ("change", "undo", "redo", "goto", "keep", "forget", "flush", "copy", "turn", "power", "start", "text", "tree",
         "file", "spoil", "state", "was")


def written(bodies):
    return joined([len(body), 255 - len(body)] + body + [sum(body) % 256, 255] for body in bodies)


def right(body):
    long = len(body)
    return {1: long > 2, 2: long == 2, 3: long == 3 and body[-1] in (0, 1), 4: long == 2,
            5: long > 2 and body[2] in (0, 1), 6: long > 5 and body[3] in (0, 1),
            7: long > 4 and long % 2 == 1}.get(body[0], False)


def bodies_in(data):
    bodies = []
    while len(data) > 1 and data[0] > 0 and data[0] + data[1] == 255 and len(data) >= data[0] + 4:
        body, (summed, end) = data[2:2 + data[0]], data[2 + data[0]:4 + data[0]]
        if summed != sum(body) % 256 or end != 255 or not right(body):
            break
        bodies.append(body)
        data = data[4 + len(body):]
    return bodies


def edited(old, place, out, put):
    return [old[k] for k in range(len(old)) if k < place] + put + [old[k] for k in range(place + out, len(old))]


class Told:
    """A tree. States are rows [number, made of or None, change or None, text, kept]; pairs stand latest first."""

    def __init__(self):
        self.rows = [[0, None, None, [], 0]]
        self.pairs = []
        self.now, self.given, self.deeds = 0, 1, 0

    def row(self, number):
        return next((row for row in self.rows if row[0] == number), None)

    def text(self):
        return self.row(self.now)[3]

    def pair(self, one, child):
        self.pairs = [(one, child)] + [pair for pair in self.pairs if pair[0] != one]

    def away(self, row):
        self.rows = [other for other in self.rows if other is not row]
        self.pairs = [pair for pair in self.pairs if row[0] not in pair]

    def pass_to(self, row):
        if row[1] is not None:
            self.pass_to(self.row(row[1]))
            self.pair(row[1], row[0])

    def refusal(self, deed):
        if deed[0] == 1:
            long = len(self.text())
            if deed[1] > long or deed[2] > long - deed[1] or [byte for byte in deed[3:] if byte > 255]:
                return -1
            if long - deed[2] + len(deed[3:]) > 80 or self.given == 40:
                return -5
        elif deed[0] == 4:
            if deed[1] == 0 or deed[1] > 255:
                return -1
        elif self.row(deed[1]) is None:
            return -2
        return -6 if self.deeds == 65535 else 0

    def do(self, deed):
        self.deeds += 1
        if deed[0] == 1:
            new = edited(self.text(), deed[1], deed[2], deed[3:])
            self.rows.append([self.given, self.now, deed[1:], new, 0])
            self.pair(self.now, self.given)
            self.now = self.given
            self.given += 1
        elif deed[0] == 2:
            self.pass_to(self.row(deed[1]))
            self.now = deed[1]
        elif deed[0] == 3:
            self.row(deed[1])[4] = deed[2]
        else:
            self.forget(deed[1])

    def forget(self, many):
        while len(self.rows) > many:
            parents = [row[1] for row in self.rows]
            free = [row for row in self.rows[1:] if row[0] not in parents + [self.now] and not row[4]]
            if not free:
                break
            self.away(min(free))
        while len(self.rows) > many:
            first = self.rows[0]
            made = [row for row in self.rows if row[1] == first[0]]
            if first[0] == self.now or first[4] or len(made) != 1:
                break
            self.away(first)
            made[0][1] = made[0][2] = None
            self.rows.sort(key=lambda row: (row[1] is not None, row[0]))

    def bodies(self):
        first = self.rows[0]
        others = [[6, row[0], row[1], row[4]] + row[2] for row in self.rows[1:]]
        pairs = [number for pair in self.pairs for number in pair]
        return [[5, first[0], first[4]] + first[3]] + others + [
            [7, self.now, self.given, self.deeds % 256, self.deeds // 256] + pairs]


def copied(bodies):
    """The tree of a copy, None if they are none."""
    told = Told()
    first, end = bodies[0], bodies[-1]
    told.rows = [[first[1], None, None, first[3:], first[2]]]
    for body in bodies[1:-1]:
        parent, at_most = told.row(body[2]), max(row[0] for row in told.rows)
        if body[1] <= at_most or parent is None or body[4] + body[5] > len(parent[3]):
            return None
        told.rows.append([body[1], body[2], body[4:], edited(parent[3], body[4], body[5], body[6:]), body[3]])
    told.now, told.given, told.deeds = end[1], end[2], end[3] + 256 * end[4]
    told.pairs = [(end[k], end[k + 1]) for k in range(5, len(end), 2)]
    numbers = [row[0] for row in told.rows]
    made = [(row[1], row[0]) for row in told.rows[1:]]
    fits = (max(len(row[3]) for row in told.rows) <= 80 and told.now in numbers and max(numbers) < told.given < 41
            and all(pair in made for pair in told.pairs)
            and all(told.pairs[k][0] != pair[0] for k in range(len(told.pairs)) for pair in told.pairs[:k]))
    return told if fits else None


def said(data):
    """The tree that a file says, None if it doesn't count."""
    bodies = bodies_in(data[3:])
    shape = re.match("56*7", "".join(str(body[0]) for body in bodies))
    if len(data) < 3 or data[2] != 255 or shape is None:
        return None
    told = copied(bodies[:shape.end()])
    if told is not None:
        for body in bodies[shape.end():]:
            if body[0] > 4 or told.refusal(body):
                break
            told.do(body)
    return told


def past(deeds):
    """What was answers when these are all deeds asked for, none of them refused, whatever tree they meet."""
    made_of, changes, kept = {0: None}, {}, set()
    first, beginning, now, given = 0, [], 0, 1

    def text_at(number):
        way = [number]
        while number in made_of and made_of[way[0]] in made_of and len(way) < len(made_of) + 1:
            way.insert(0, made_of[way[0]])
        now_text = beginning
        for step in way[1:]:
            now_text = edited(now_text, changes[step][0], changes[step][1], changes[step][2:])
        return now_text

    for deed in deeds:
        if deed[0] == 1:
            made_of[given], changes[given] = now, deed[1:]
            now, given = given, given + 1
        elif deed[0] == 2:
            now = deed[1]
        elif deed[0] == 3:
            kept = kept - {deed[1]} if deed[2] == 0 else kept | ({deed[1]} & set(made_of))
        else:
            while len(made_of) > deed[1]:
                free = set(made_of) - set(made_of.values()) - kept - {first, now}
                if not free:
                    break
                made_of.pop(min(free))
            while len(made_of) > deed[1] and first != now and first not in kept:
                heirs = [number for number in made_of if made_of[number] == first]
                if len(heirs) != 1:
                    break
                beginning = text_at(heirs[0])
                made_of.pop(first)
                first = heirs[0]
                made_of[first] = None
    return [now, len(made_of), len(text_at(now))] + text_at(now)


class Retold:
    """The editor."""

    def __init__(self):
        self.tree_now, self.remembered = Told(), []
        self.powered, self.copying = True, False
        self.files, self.writes = [[], []], []
        self.safe = 0
        self.begin(0, 1)

    def begin(self, which, number):
        self.files[which] = [number % 256, number // 256, 255] + written(self.tree_now.bodies())
        self.used, self.number, self.size = which, number, len(self.files[which])

    def deed(self, deed):
        refusal = self.tree_now.refusal(deed)
        if refusal or self.size + len(deed) + 4 > 5000:
            return [refusal or -6]
        self.tree_now.do(deed)
        self.remembered.append(deed)
        self.writes.append((self.used, self.size, written([deed])))
        self.size += len(deed) + 4
        return [self.tree_now.now, len(self.tree_now.text()), self.tree_now.deeds, self.size]

    def change(self, place, out, put):
        return self.deed([1, place, out] + put)

    def undo(self):
        parent = self.tree_now.row(self.tree_now.now)[1]
        return [-7] if parent is None else self.deed([2, parent])

    def redo(self):
        told = self.tree_now
        wanted = [pair[1] for pair in told.pairs if pair[0] == told.now]
        wanted += sorted([row[0] for row in told.rows if row[1] == told.now], reverse=True)
        return self.deed([2, wanted[0]]) if wanted else [-7]

    def goto(self, number):
        return self.deed([2, number])

    def keep(self, number, kept):
        return self.deed([3, number, kept])

    def forget(self, many):
        return self.deed([4, many])

    def store(self, which, place, data):
        longer = self.files[which] + [0] * (place + len(data) - len(self.files[which]))
        for k, byte in enumerate(data):
            longer[place + k] = byte
        self.files[which] = longer

    def flush(self):
        many = len(self.writes)
        for which, place, data in self.writes:
            self.store(which, place, data)
        self.writes, self.safe = [], self.tree_now.deeds
        return [many, self.safe]

    def copy(self):
        self.flush()
        self.copying = True
        self.files[1 - self.used] = []
        self.writes = [(1 - self.used, 3, written(self.tree_now.bodies()))]
        return [3 + len(self.writes[0][2])]

    def turn(self):
        if not self.copying:
            return [-8]
        self.flush()
        self.copying = False
        self.used, self.number = 1 - self.used, (self.number + 1) % 65536
        self.size = len(self.files[self.used])
        self.writes = [(self.used, 0, [self.number % 256, self.number // 256, 255])]
        return [self.size]

    def power(self, arrived):
        many = len(self.writes)
        for k, (which, place, data) in enumerate(self.writes):
            if k < len(arrived) and arrived[k]:
                self.store(which, place, data[:arrived[k]])
        self.writes, self.powered = [], False
        return [many]

    def start(self):
        counting = [(data[0] + 256 * data[1], 1 - which) for which, data in enumerate(self.files) if said(data)]
        if not counting:
            return [-6]
        number, found = max(counting)[0], 1 - max(counting)[1]
        self.tree_now = said(self.files[found])
        self.safe = self.tree_now.deeds
        self.remembered = self.remembered[:self.safe]
        self.begin(1 - found, (number + 1) % 65536)
        self.powered, self.copying = True, False
        return [self.safe, self.tree_now.now, len(self.tree_now.text()), found]

    def text(self, number):
        row = self.tree_now.row(number)
        return [-2] if row is None else [len(row[3])] + row[3]

    def tree(self):
        rows = sorted(self.tree_now.rows)
        return [self.tree_now.now, len(rows)] + joined(
            [row[0], 0 if row[1] is None else row[1] + 1, row[4]] for row in rows)

    def file(self, which):
        return [len(self.files[which])] + self.files[which]

    def spoil(self, which, place, byte):
        if place >= len(self.files[which]) or byte > 255:
            return [-1]
        old = self.files[which][place]
        self.store(which, place, [byte])
        return [old]

    def state(self):
        return [int(self.powered), self.tree_now.deeds, self.safe, len(self.writes), self.used, self.number, self.size,
                int(self.copying)]

    def was(self, many):
        return [-2] if many > len(self.remembered) else past(self.remembered[:many])

    def tell(self, call):
        if call[0] in (10, 14) if self.powered else call[0] in (0, 1, 2, 3, 4, 5, 6, 7, 8, 9, 11, 12):
            return [-9]
        if self.copying and call[0] in (0, 1, 2, 3, 4, 5, 7):
            return [-8]
        given = {0: call[1:3] + [call[4:]], 9: [call[2:]]}.get(call[0], call[1:])
        return getattr(self, NAMES[call[0]])(*given)


def any_bytes(source):
    return [source.choice([1, 2, 255]) for k in range(source.choice([0, 1, 1, 3, 30]))]


def any_change(source, told):
    long = len(told.text())
    if source.random() < 0.1:
        return change(source.randrange(90), source.randrange(90), any_bytes(source))
    place = source.randrange(long + 1)
    return change(place, source.randrange(long - place + 1), any_bytes(source))


def any_state(source, told):
    return source.randrange(45) if source.random() < 0.1 else source.choice(told.rows)[0]


def any_deed(source, told):
    sort = source.random()
    if sort < 0.45:
        return any_change(source, told)
    if sort < 0.95:
        return source.choice([undo(), redo(), goto(any_state(source, told)),
                              keep(any_state(source, told), source.randrange(2))])
    return forget(source.randrange(len(told.rows) + 2))


def any_power(source, retold):
    longs = [len(data) for which, place, data in retold.writes]
    if source.random() < 0.5:
        return power(*longs)
    arrived = [source.choice([0, 1, long - 1, long, long, long, long + 1, 4294967295]) for long in longs] + [5, 5]
    return power(*arrived[:source.choice([0, len(longs) // 2, len(longs), len(longs) + 2])])


def spoilt_right(source, retold):
    """Two spoils by which another record is right; none if there is no record."""
    which = source.randrange(2)
    bodies = bodies_in(retold.files[which][3:])
    if not bodies:
        return []
    chosen = source.randrange(len(bodies))
    body = bodies[chosen]
    begin = 5 + sum(len(other) + 4 for other in bodies[:chosen])
    # Of a copy's end most often the numbers given: these alone let deeds meet trees that lack their states.
    place = 2 if body[0] == 7 and source.random() < 0.7 else source.randrange(min(len(body), 8))
    byte = source.choice([0, 1, 2, 3, 39, 40, 41, source.randrange(256), body[place] + 1 & 255, body[place] + 1 & 255])
    summed = (sum(body) - body[place] + byte) % 256
    return [spoil(which, begin + place, byte), spoil(which, begin + len(body), summed)]


def any_spoil(source, retold):
    which = source.randrange(2)
    return spoil(which, source.randrange(len(retold.files[which]) + 2), source.choice([0, 2, 255, 256]))


def any_telling(source, retold):
    many = source.randrange(len(retold.remembered) + 2)
    return source.choice([text(any_state(source, retold.tree_now)), tree(), file(source.randrange(2)), state(),
                          was(many), was(many), was(len(retold.remembered))])


def without_power(source, retold, wild):
    spoils = []
    if source.random() < wild:
        spoils = spoilt_right(source, retold) + spoilt_right(source, retold)
    if source.random() < wild / 6:
        spoils.append(any_spoil(source, retold))
    return spoils + [any_telling(source, retold)] * source.randrange(2) + [start(), tree()]


def with_power(source, retold):
    sort = source.random()
    if retold.copying and sort < 0.9:
        return [source.choice([turn(), turn(), turn(), flush(), copy(), any_telling(source, retold)])]
    if sort < 0.70:
        return [any_deed(source, retold.tree_now)]
    if sort < 0.82:
        return [any_telling(source, retold)]
    if sort < 0.92:
        return [any_power(source, retold)]
    return [source.choice([flush(), copy(), copy(), turn()])]


def next_calls(source, retold, wild):
    if source.random() < 0.05:
        return [source.choice([start(), power(), undo(), flush(), copy(), any_spoil(source, retold)])]
    return with_power(source, retold) if retold.powered else without_power(source, retold, wild)


def line(seed, wild):
    """A list of calls and the answers that the words tell; the wilder, the more is spoilt."""
    source, retold = random.Random(seed), Retold()
    calls, told = [], []
    # Where no file counts there's little left to ask.
    while len(calls) < 60 and told.count([-6]) < 3:
        for call in next_calls(source, retold, wild)[:60 - len(calls)]:
            calls.append(call)
            told.append(retold.tell(call))
    return calls, told


class Retelling(unittest.TestCase):
    def held(self, calls, told, seed):
        self.assertEqual(list(zip(calls, parted(answers(joined(calls))))), list(zip(calls, told)), seed)

    def test_deeds_alone(self):
        for seed in range(300):
            source, retold = random.Random(seed), Retold()
            calls, told = [], []
            while len(calls) < 57:
                now = retold.tree_now
                calls.append(any_deed(source, now) if seed % 2 else any_change(source, now))
                told.append(retold.tell(calls[-1]))
            calls += [tree(), was(now.deeds), was(now.deeds // 2)]
            self.held(calls, told + [retold.tell(call) for call in calls[57:]], seed)

    def test_all_seventeen_calls(self):
        met = {}
        for seed in range(600):
            calls, told = line(seed, 0.1)
            for call, answer in zip(calls, told):
                met[NAMES[call[0]], min(answer[0], 0)] = True
            self.held(calls, told, seed)
        self.assertEqual({name for name, granted in met if granted == 0}, set(NAMES))

    def test_spoilt_bytes(self):
        for seed in range(1200):
            calls, told = line(seed, (0.3, 0.6, 1)[seed % 3])
            self.held(calls, told, seed)

    def test_copies_are_those_of_the_words(self):
        for seed in range(200):
            source, retold, editor = random.Random(seed), Retold(), Editor()
            for k in range(60):
                call = any_deed(source, retold.tree_now)
                retold.tell(call)
                tell(editor, call)
                self.assertEqual(copy_of(editor.tree), written(retold.tree_now.bodies()), seed)


if __name__ == "__main__":
    unittest.main()
