"""What start reads: spoilt bytes, one at a time and so that records are right again; copies that aren't right."""

import unittest

from asking import (ask, change, copy, file, flush, forget, goto, keep, last, power, powerless, redo, spoil,
                    start, state, tell, text, tree, turn, typed, undo, was, written)
from texttrees.records import record

# 0 - 1 - 2, 1 - 3; now is 1, 2 is kept
COPY = [[5, 0, 0], [6, 1, 0, 0, 0, 0, 97, 98], [6, 2, 1, 1, 2, 0, 99], [6, 3, 1, 0, 0, 1], [7, 1, 4, 9, 0, 1, 3, 0, 1]]


def file_of(bodies, number=1):
    return [number, 0, 255] + written(*bodies)


def with_body(place, body):
    return COPY[:place] + ([] if body is None else [body]) + COPY[place + 1:]


def started(bodies, *calls):
    """The answers to start and these calls behind it, if file 1 alone has these records."""
    editor = powerless([], file_of(bodies))
    return [tell(editor, call) for call in [start(), *calls]]


def made_right(which, begin, body, place, byte):
    """Two spoils: a byte of the body that begins there, and the sum."""
    summed = (sum(body) - body[place] + byte) % 256
    return [spoil(which, begin + place, byte), spoil(which, begin + len(body), summed)]


class OneByteSpoilt(unittest.TestCase):
    # file 0 has its copy and one deed, file 1 the copy of that tree, then two deeds: their records are 8 and 7 long
    CALLS = [typed(1), copy(), turn(), typed(1), keep(0), flush(), power()]
    HEAD = 3
    COPIED = 3 + 7 + 11 + 11

    def found_when(self, place, byte):
        return last(*self.CALLS, spoil(1, place, byte), start())

    def others(self, place):
        old = last(*self.CALLS, file(1))[1 + place]
        return [byte for byte in (0, 1, 2, 127, 254, 255, old ^ 1, old + 1, old - 1) if byte != old and 0 <= byte < 256]

    def test_none_is(self):
        self.assertEqual(last(*self.CALLS, start()), [3, 2, 2, 1])
        self.assertEqual(last(*self.CALLS, file(1))[0], self.COPIED + 15)

    def test_of_the_head(self):
        # another number, which may be the lower one; or no head
        for byte in range(256):
            self.assertEqual(self.found_when(0, byte), [1, 1, 1, 0] if byte < 2 else [3, 2, 2, 1])
            self.assertEqual(self.found_when(1, byte), [3, 2, 2, 1])
            self.assertEqual(self.found_when(2, byte), [3, 2, 2, 1] if byte == 255 else [1, 1, 1, 0])

    def test_of_the_copy(self):
        for place in range(self.HEAD, self.COPIED):
            for byte in self.others(place):
                self.assertEqual(self.found_when(place, byte), [1, 1, 1, 0], (place, byte))

    def test_of_the_deeds(self):
        for place in range(self.COPIED, self.COPIED + 8):
            for byte in self.others(place):
                self.assertEqual(self.found_when(place, byte), [1, 1, 1, 1], (place, byte))
        for place in range(self.COPIED + 8, self.COPIED + 15):
            for byte in self.others(place):
                self.assertEqual(self.found_when(place, byte), [2, 2, 2, 1], (place, byte))

    def test_no_other_file_counts(self):
        for place in range(2, 19):
            for byte in (0, 3, 251, 254):
                if byte != last(file(0))[1 + place]:
                    self.assertEqual(last(typed(1), flush(), power(), spoil(0, place, byte), start()), [-6])


class RightAgain(unittest.TestCase):
    # In the first file the first state's body is at 5, the end's at 12; a deed's at 21.
    FIRST = [5, 0, 0]
    END = [7, 0, 1, 0, 0]

    def first_with(self, place, byte, *calls):
        return ask(power(), *made_right(0, 5, self.FIRST, place, byte), start(), *calls)[3:]

    def end_with(self, place, byte, *calls):
        return ask(power(), *made_right(0, 12, self.END, place, byte), start(), *calls)[3:]

    def deed_with(self, deed, body, place, byte, *calls):
        return ask(typed(2), deed, flush(), power(), *made_right(0, 30, body, place, byte), start(), *calls)[6:]

    def test_the_first_ones_number(self):
        # the end's state now is 0, which isn't there then
        self.assertEqual(self.first_with(1, 1), [[-6]])
        both = made_right(0, 5, self.FIRST, 1, 5) + made_right(0, 12, self.END, 1, 5)
        self.assertEqual(last(power(), *both, start()), [-6])
        both = both + [spoil(0, 14, 6), spoil(0, 17, 7 + 5 + 6)]
        self.assertEqual(ask(power(), *both, start(), tree(), typed(1), tree(), goto(0))[7:],
                         [[0, 5, 0, 0], [5, 1, 5, 0, 0], [6, 1, 1, 27], [6, 2, 5, 0, 0, 6, 6, 0], [-2]])

    def test_kept(self):
        self.assertEqual(self.first_with(2, 1, tree()), [[0, 0, 0, 0], [0, 1, 0, 0, 1]])
        self.assertEqual(self.first_with(2, 2), [[-6]])

    def test_the_state_now(self):
        self.assertEqual(self.end_with(1, 1), [[-6]])

    def test_numbers_given(self):
        self.assertEqual(self.end_with(2, 0), [[-6]])
        self.assertEqual(self.end_with(2, 39, typed(0), typed(0)), [[0, 0, 0, 0], [39, 0, 1, 26], [-5]])
        self.assertEqual(self.end_with(2, 40, typed(0), goto(0)), [[0, 0, 0, 0], [-5], [0, 0, 1, 25]])
        self.assertEqual(self.end_with(2, 41), [[-6]])
        self.assertEqual(self.end_with(2, 255), [[-6]])

    def test_deeds_done(self):
        self.assertEqual(self.end_with(3, 7, typed(1), state(), was(1), was(2)),
                         [[7, 0, 0, 0], [1, 1, 8, 27], [1, 8, 7, 1, 1, 2, 27, 0], [1, 2, 1, 7], [-2]])
        high = made_right(0, 12, self.END, 4, 255)
        for low, deeds in ((254, 65534), (255, 65535)):
            spoilt = high + [spoil(0, 15, low), spoil(0, 17, (8 + 255 + low) % 256)]
            self.assertEqual(ask(power(), *spoilt, start(), state())[5:],
                             [[deeds, 0, 0, 0], [1, deeds, deeds, 0, 1, 2, 19, 0]])
            last_ones = ask(power(), *spoilt, start(), goto(0), typed(1), keep(0), forget(1), was(1))[6:]
            self.assertEqual(last_ones, [[0, 0, 65535, 25], [-6], [-6], [-6], [0, 1, 0]] if deeds == 65534
                             else [[-6], [-6], [-6], [-6], [-2]])

    def test_a_65536th_deed_in_the_file(self):
        spoilt = [spoil(0, 15, 254), spoil(0, 16, 255), spoil(0, 17, (8 + 254 + 255) % 256)]
        self.assertEqual(last(typed(1), typed(1), flush(), power(), *spoilt, start()), [65535, 1, 1, 0])
        spoilt = [spoil(0, 15, 255), spoil(0, 16, 255), spoil(0, 17, (8 + 255 + 255) % 256)]
        self.assertEqual(last(typed(1), typed(1), flush(), power(), *spoilt, start()), [65535, 0, 0, 0])

    def test_another_text(self):
        body = [1, 0, 0, 7]
        self.assertEqual(self.deed_with(typed(1), body, 3, 65, text(2)), [[2, 2, 3, 0], [3, 65, 7, 7]])
        self.assertEqual(self.deed_with(typed(1), body, 1, 2, text(2)), [[2, 2, 3, 0], [3, 7, 7, 7]])
        self.assertEqual(self.deed_with(typed(1), body, 2, 2, text(2)), [[2, 2, 1, 0], [1, 7]])

    def test_a_change_beyond_the_text(self):
        body = [1, 0, 0, 7]
        self.assertEqual(self.deed_with(typed(1), body, 1, 3), [[1, 1, 2, 0]])
        self.assertEqual(self.deed_with(typed(1), body, 2, 3), [[1, 1, 2, 0]])
        self.assertEqual(self.deed_with(typed(1), body, 2, 255), [[1, 1, 2, 0]])

    def test_another_deed(self):
        self.assertEqual(self.deed_with(goto(0), [2, 0], 0, 4), [[1, 1, 2, 0]])  # forget 0
        self.assertEqual(self.deed_with(goto(1), [2, 1], 0, 4, tree()), [[2, 1, 2, 0], [1, 1, 1, 0, 0]])
        self.assertEqual(self.deed_with(keep(1), [3, 1, 1], 0, 1, tree()),
                         [[2, 2, 1, 0], [2, 3, 0, 0, 0, 1, 1, 0, 2, 2, 0]])
        self.assertEqual(self.deed_with(keep(0), [3, 0, 1], 1, 1, tree()), [[2, 1, 2, 0], [1, 2, 0, 0, 0, 1, 1, 1]])
        self.assertEqual(self.deed_with(keep(0), [3, 0, 1], 2, 0, tree()), [[2, 1, 2, 0], [1, 2, 0, 0, 0, 1, 1, 0]])

    def test_a_state_that_is_not_there(self):
        for number in (2, 40, 255):
            self.assertEqual(self.deed_with(goto(0), [2, 0], 1, number), [[1, 1, 2, 0]])
            self.assertEqual(self.deed_with(keep(0), [3, 0, 1], 1, number), [[1, 1, 2, 0]])

    def test_a_record_of_a_copys_sort_among_the_deeds(self):
        self.assertEqual(self.deed_with(keep(0), [3, 0, 1], 0, 5), [[1, 1, 2, 0]])
        self.assertEqual(self.deed_with(typed(3), [1, 0, 0, 7, 7, 7], 0, 6), [[1, 1, 2, 0]])
        self.assertEqual(self.deed_with(typed(2), [1, 0, 0, 7, 7], 0, 7), [[1, 1, 2, 0]])

    def test_no_sort_at_all(self):
        for sort in (0, 8, 255):
            self.assertEqual(self.deed_with(goto(0), [2, 0], 0, sort), [[1, 1, 2, 0]])

    def test_what_is_behind_such_a_record_is_not_read(self):
        calls = [typed(2), goto(0), goto(1), flush(), power(), *made_right(0, 30, [2, 0], 1, 9), start()]
        self.assertEqual(ask(*calls, was(1), was(2))[7:], [[1, 1, 2, 0], [1, 2, 2, 7, 7], [-2]])

    def test_pairs(self):
        # 1 and 2 are made of 0, now is 0; the end's body begins behind the records of 3 states
        calls = [typed(1), undo(), typed(1), undo(), copy(), turn(), flush(), power()]
        end = [7, 0, 3, 4, 0, 0, 2]
        begin = 3 + 7 + 11 + 11 + 2
        self.assertEqual(last(*calls, start(), redo())[0], 2)
        for child, found in ((1, 1), (2, 2)):
            self.assertEqual(last(*calls, *made_right(1, begin, end, 6, child), start(), redo())[0], found)
        for place, number in ((6, 0), (6, 3), (5, 1), (5, 9)):
            # file 1 doesn't count then; file 0 says the same tree
            self.assertEqual(last(*calls, *made_right(1, begin, end, place, number), start()), [4, 0, 0, 0])

    def test_another_tree_is_gone_on_with(self):
        calls = [typed(2), undo(), flush(), power(), *made_right(0, 21, [1, 0, 0, 7, 7], 3, 65), start()]
        self.assertEqual(ask(*calls, redo(), text(1), flush(), power(), start(), text(1), was(3))[7:],
                         [[1, 2, 3, 39], [2, 65, 7], [1, 3], [0], [3, 1, 2, 1], [2, 65, 7], [1, 2, 2, 7, 7]])


class Deeds(unittest.TestCase):
    """Those behind a copy, up to the first that can't be done."""

    def found(self, *deeds):
        return started(COPY + list(deeds))[0][:3]

    def test_none(self):
        self.assertEqual(self.found(), [9, 1, 2])

    def test_those_that_can_be_done(self):
        self.assertEqual(self.found([2, 3], [3, 3, 1], [1, 0, 0, 5], [4, 1]), [13, 4, 2])

    def test_those_that_cannot(self):
        for deed in ([1, 3, 0], [1, 0, 3], [1, 2, 1], [1, 255, 255], [2, 4], [2, 255], [3, 4, 1], [3, 4, 0], [4, 0]):
            self.assertEqual(self.found(deed, [2, 2]), [9, 1, 2])
            self.assertEqual(self.found([3, 0, 1], deed, [2, 2]), [10, 1, 2])

    def test_80_bytes_and_81(self):
        self.assertEqual(self.found([1, 0, 0] + [5] * 78, [2, 0]), [11, 0, 0])
        self.assertEqual(self.found([1, 0, 0] + [5] * 79, [2, 0]), [9, 1, 2])
        self.assertEqual(self.found([1, 0, 2] + [5] * 80, [2, 0]), [11, 0, 0])
        self.assertEqual(self.found([1, 0, 2] + [5] * 252, [2, 0]), [9, 1, 2])

    def test_the_41st_number(self):
        self.assertEqual(self.found(*[[1, 0, 0]] * 36), [45, 39, 2])
        self.assertEqual(self.found(*[[1, 0, 0]] * 36, [2, 0]), [46, 0, 0])
        self.assertEqual(self.found(*[[1, 0, 0]] * 37, [2, 0]), [45, 39, 2])

    def test_no_deeds(self):
        for body in COPY:
            self.assertEqual(self.found([2, 2], body, [2, 0]), [10, 2, 3])
        self.assertEqual(started(COPY + COPY)[0], [9, 1, 2, 1])

    def test_a_file_may_be_longer_than_deeds_make_it(self):
        self.assertEqual(self.found(*[[2, 0]] * 1000), [1009, 0, 0])

    def test_zeros_end_it(self):
        editor = powerless(file_of(COPY) + record([2, 0]) + [0] * 6 + record([2, 2]), [])
        self.assertEqual(tell(editor, start()), [10, 0, 0, 0])


class Copies(unittest.TestCase):
    def counts(self, bodies):
        self.assertEqual(started(bodies)[0][1:], [1, 2, 1], bodies)

    def does_not_count(self, bodies):
        self.assertEqual(started(bodies), [[-6]], bodies)
        # and the other file is found, though its number is lower
        editor = powerless(file_of(COPY), file_of(bodies, 9))
        self.assertEqual(tell(editor, start()), [9, 1, 2, 0])

    def test_a_right_one(self):
        self.counts(COPY)
        self.assertEqual(started(COPY, tree(), text(0), text(1), text(2), text(3), redo(), state())[1:], [
            [1, 4, 0, 0, 0, 1, 1, 0, 2, 2, 1, 3, 2, 0], [0], [2, 97, 98], [3, 97, 98, 99], [1, 98],
            [3, 1, 10, 62], [1, 10, 9, 1, 0, 2, 62, 0]])

    def test_is_written_again_as_it_was(self):
        editor = powerless([], file_of(COPY))
        tell(editor, start())
        self.assertEqual(tell(editor, file(0))[1:], file_of(COPY, 2))

    def test_sorts(self):
        for place in range(len(COPY) - 1):
            self.does_not_count(COPY[:place] + COPY[-1:] if place < 2 else COPY[:place])
        self.does_not_count([])
        self.does_not_count(COPY[1:])
        self.does_not_count(COPY[:1] + COPY)
        self.does_not_count(COPY[:2] + COPY[:1] + COPY[2:])
        self.does_not_count(COPY[:4] + COPY[:1] + COPY[4:])
        self.does_not_count(COPY[:-1])
        self.does_not_count([[2, 0]] + COPY)
        for deed in ([1, 0, 0], [2, 0], [3, 0, 1], [4, 9]):
            for place in range(1, len(COPY)):
                self.does_not_count(COPY[:place] + [deed] + COPY[place:])
        self.does_not_count(COPY[-1:] + COPY)

    def test_a_record_of_it_that_is_not_right(self):
        for place in range(len(COPY)):
            for body in ([8], [0, 0, 0], COPY[place][:1]):
                self.does_not_count(with_body(place, body))

    def test_the_first_ones_text(self):
        end = [7, 0, 1, 0, 0]
        self.assertEqual(started([[5, 0, 0] + [9] * 80, end])[0], [0, 0, 80, 1])
        self.assertEqual(started([[5, 0, 0] + [9] * 81, end])[0], [-6])
        self.assertEqual(started([[5, 0, 0] + [9] * 252, end])[0], [-6])

    def test_numbers_rise(self):
        self.does_not_count([COPY[0], COPY[1], COPY[3], COPY[2], COPY[4]])
        self.does_not_count(with_body(3, [6, 2, 1, 0, 0, 1]))
        self.does_not_count(with_body(1, [6, 0, 0, 0, 0, 0, 97, 98]))
        self.does_not_count(COPY[:3] + COPY[2:])
        self.counts(with_body(2, [6, 2, 1, 1, 0, 0]))
        end = [7, 9, 40, 0, 0]
        self.assertEqual(started([[5, 7, 1], [6, 9, 7, 0, 0, 0], [6, 39, 9, 0, 0, 0], end], tree()),
                         [[0, 9, 0, 1], [9, 3, 7, 0, 1, 9, 8, 0, 39, 10, 0]])

    def test_above_the_first_ones(self):
        self.assertEqual(started([[5, 3, 0], [6, 2, 3, 0, 0, 0], [7, 3, 4, 0, 0]]), [[-6]])
        self.assertEqual(started([[5, 3, 0], [6, 3, 3, 0, 0, 0], [7, 3, 4, 0, 0]]), [[-6]])
        self.assertEqual(started([[5, 3, 0], [6, 4, 3, 0, 0, 0], [7, 3, 5, 0, 0]]), [[0, 3, 0, 1]])

    def test_made_of_one_that_is_there(self):
        self.does_not_count(with_body(3, [6, 3, 4, 0, 0, 1]))
        self.does_not_count(with_body(3, [6, 3, 3, 0, 0, 0]))
        self.does_not_count(with_body(2, [6, 2, 3, 1, 0, 0, 99]))
        self.does_not_count(with_body(1, [6, 1, 2, 0, 0, 0, 97, 98]))
        self.does_not_count(with_body(3, [6, 3, 255, 0, 0, 1]))

    def test_by_a_change_that_fits(self):
        self.counts(with_body(3, [6, 3, 1, 0, 2, 0]))
        self.does_not_count(with_body(3, [6, 3, 1, 0, 3, 0]))
        self.counts(with_body(3, [6, 3, 1, 0, 0, 2]))
        self.does_not_count(with_body(3, [6, 3, 1, 0, 0, 3]))
        self.does_not_count(with_body(3, [6, 3, 1, 0, 1, 2]))
        self.does_not_count(with_body(3, [6, 3, 1, 0, 255, 255]))

    def test_to_80_bytes_at_most(self):
        self.counts(with_body(3, [6, 3, 1, 0, 0, 0] + [9] * 78))
        self.does_not_count(with_body(3, [6, 3, 1, 0, 0, 0] + [9] * 79))
        self.counts(with_body(3, [6, 3, 1, 0, 0, 2] + [9] * 80))
        self.does_not_count(with_body(3, [6, 3, 1, 0, 0, 2] + [9] * 81))

    def test_the_state_now(self):
        for number in (4, 40, 255):
            self.does_not_count(with_body(4, [7, number, 4, 9, 0]))
        self.assertEqual(started(with_body(4, [7, 3, 4, 9, 0]))[0], [9, 3, 1, 1])

    def test_numbers_given(self):
        for given in (0, 1, 3, 41, 255):
            self.does_not_count(with_body(4, [7, 1, given, 9, 0]))
        for given in (4, 5, 39, 40):
            self.counts(with_body(4, [7, 1, given, 9, 0]))
        self.assertEqual(started([[5, 39, 0], [7, 39, 40, 0, 0]])[0], [0, 39, 0, 1])
        self.assertEqual(started([[5, 40, 0], [7, 40, 41, 0, 0]])[0], [-6])
        self.assertEqual(started([[5, 40, 0], [7, 40, 40, 0, 0]])[0], [-6])

    def test_deeds_done(self):
        for low, high in ((0, 0), (255, 0), (0, 1), (255, 255)):
            self.assertEqual(started(with_body(4, [7, 1, 4, low, high]))[0], [low + 256 * high, 1, 2, 1])

    def test_pairs(self):
        for pairs in ([], [0, 1], [1, 2], [1, 3], [0, 1, 1, 2], [1, 2, 0, 1]):
            self.counts(with_body(4, [7, 1, 4, 9, 0] + pairs))
        for pairs in ([1, 0], [0, 2], [0, 0], [2, 3], [1, 4], [4, 1], [0, 1, 0, 1], [1, 2, 1, 3], [0, 1, 1, 2, 0, 1],
                      [0, 1, 1, 2, 1, 3], [0, 1, 2, 1], [255, 255]):
            self.does_not_count(with_body(4, [7, 1, 4, 9, 0] + pairs))
        for pairs in ([0], [0, 1, 1]):
            self.does_not_count(with_body(4, [7, 1, 4, 9, 0] + pairs))

    def test_pairs_that_are_missing(self):
        self.assertEqual(started(with_body(4, [7, 1, 4, 9, 0]), redo())[1][0], 3)
        self.assertEqual(started(with_body(4, [7, 1, 4, 9, 0, 1, 2]), redo())[1][0], 2)

    def test_what_is_kept(self):
        self.assertEqual(started(with_body(2, [6, 2, 1, 0, 2, 0, 99]), forget(1), tree())[2], [1, 1, 1, 0, 0])
        self.assertEqual(started(COPY, forget(1), tree())[2], [1, 2, 1, 0, 0, 2, 2, 1])
        self.assertEqual(started(with_body(0, [5, 0, 1]), forget(1), tree())[2], [1, 3, 0, 0, 1, 1, 1, 0, 2, 2, 1])

    def test_the_head(self):
        for head, counts in (([1, 0, 255], True), ([0, 0, 255], True), ([255, 255, 255], True), ([1, 0, 0], False),
                             ([1, 0, 254], False), ([255, 1, 0], False)):
            editor = powerless(head + written(*COPY), [])
            self.assertEqual(tell(editor, start()), [9, 1, 2, 0] if counts else [-6])

    def test_a_file_that_is_cut(self):
        whole = file_of(COPY)
        for long in range(len(whole)):
            self.assertEqual(tell(powerless(whole[:long], []), start()), [-6])
        deeds = whole + record([2, 0])
        for long in range(len(whole), len(deeds)):
            self.assertEqual(tell(powerless(deeds[:long], []), start()), [9, 1, 2, 0])

    def test_the_longest_copy(self):
        full = [change(0, 0, [1] * 80)] + [change(0, 80, [2] * 80)] * 38
        self.assertEqual(last(*full, copy(), turn(), flush(), power(), start()), [39, 39, 80, 1])
        self.assertEqual(last(*full, copy(), turn(), flush(), power(), start(), file(0))[0], 3607)

    def test_undo_in_what_was_found(self):
        self.assertEqual(started(COPY, undo(), undo(), goto(2), undo())[1:],
                         [[0, 0, 10, 62], [-7], [2, 3, 11, 68], [1, 2, 12, 74]])

    def test_was_knows_the_calls_deeds_alone(self):
        editor = powerless(file_of(COPY), [])
        self.assertEqual([tell(editor, call) for call in (start(), was(0), was(1), undo(), was(1), was(2))],
                         [[9, 1, 2, 0], [0, 1, 0], [-2], [0, 0, 10, 62], [0, 1, 0], [-2]])

    def test_all_spoilt_to_another_copy_by_the_calls_alone(self):
        # the end of the first copy and the deed behind it become another state and another end
        old = last(typed(6), flush(), file(0))[1:]
        new = [1, 0, 255] + written([5, 0, 0], [6, 2, 0, 1, 0, 0, 65], [7, 2, 3, 5, 0])
        self.assertLess(len(new), len(old))
        spoils = [spoil(0, place, byte) for place, byte in enumerate(new) if old[place] != byte]
        self.assertEqual(ask(typed(6), flush(), power(), *spoils, start(), tree(), text(2), was(1), was(2))[-5:],
                         [[5, 2, 1, 0], [2, 2, 0, 0, 0, 2, 1, 1], [1, 65], [1, 2, 6] + [7] * 6, [-2]])


if __name__ == "__main__":
    unittest.main()
