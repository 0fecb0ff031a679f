"""The call power: what arrives of the writes on their way, and what is told behind it."""

import unittest

from asking import (EMPTY_SIZE, TOP, ask, change, copy, editor_after, file, flush, goto, keep, last, power, start,
                    state, tell, turn, typed, undo, was, written)

BEGUN = [1, 0, 255] + written([5, 0, 0], [7, 0, 1, 0, 0])
GO = written([2, 0])
KEEP = written([3, 0, 1])
MAKE = written([1, 0, 0, 97, 98])
# The writes on their way: 6, 7 and 9 bytes long, at the places 19, 25 and 32.
THREE = [goto(0), keep(0), change(0, 0, b"ab")]


def file_after(*calls):
    answer = last(*calls, file(0))
    assert answer[0] == len(answer) - 1
    return answer[1:]


class Answer(unittest.TestCase):
    def test_how_many_writes_were_on_their_way(self):
        self.assertEqual(last(power()), [0])
        self.assertEqual(last(*THREE, power()), [3])
        self.assertEqual(last(*THREE, power(6, 7, 9)), [3])
        self.assertEqual(last(*THREE, power(6, 7, 9, 1, 1)), [3])
        self.assertEqual(last(*THREE, flush(), power()), [0])
        self.assertEqual(last(*THREE, flush(), undo(), goto(1), power(1)), [2])
        self.assertEqual(last(*THREE, copy(), power()), [1])
        self.assertEqual(last(*THREE, copy(), turn(), goto(0), power()), [2])

    def test_as_many_as_there_can_be(self):
        self.assertEqual(last(*[goto(0)] * 59, power(*[6] * 59)), [59])
        self.assertEqual(last(power(*[TOP] * 80)), [0])


class Arrived(unittest.TestCase):
    def test_nothing_told(self):
        self.assertEqual(file_after(*THREE, power()), BEGUN)

    def test_all_told(self):
        self.assertEqual(file_after(*THREE, power(6, 7, 9)), BEGUN + GO + KEEP + MAKE)

    def test_more_than_a_write_has(self):
        self.assertEqual(file_after(*THREE, power(7, 255, TOP)), BEGUN + GO + KEEP + MAKE)

    def test_fewer_numbers_than_writes(self):
        self.assertEqual(file_after(*THREE, power(6)), BEGUN + GO)
        self.assertEqual(file_after(*THREE, power(6, 7)), BEGUN + GO + KEEP)

    def test_more_numbers_than_writes(self):
        self.assertEqual(file_after(power(3, 4)), BEGUN)
        self.assertEqual(file_after(goto(0), power(2, 9, 9)), BEGUN + GO[:2])

    def test_each_part_of_a_write(self):
        for many in range(10):
            self.assertEqual(file_after(*THREE, power(6, 7, many)), BEGUN + GO + KEEP + MAKE[:many])

    def test_a_later_write_behind_one_that_is_not_whole(self):
        for many in range(7):
            self.assertEqual(file_after(*THREE, power(many, 7)), BEGUN + GO[:many] + [0] * (6 - many) + KEEP)
        self.assertEqual(file_after(*THREE, power(0, 0, 9)), BEGUN + [0] * 13 + MAKE)
        self.assertEqual(file_after(*THREE, power(2, 1, 1)),
                         BEGUN + GO[:2] + [0] * 4 + KEEP[:1] + [0] * 6 + MAKE[:1])

    def test_a_write_of_which_no_byte_arrives_makes_no_file_longer(self):
        self.assertEqual(file_after(*THREE, power(1, 0, 0)), BEGUN + GO[:1])
        self.assertEqual(file_after(*THREE, power(0, 1, 0)), BEGUN + [0] * 6 + KEEP[:1])
        self.assertEqual(last(copy(), power(0), file(1)), [0])
        self.assertEqual(last(copy(), power(), file(1)), [0])

    def test_nothing_is_on_its_way_any_more(self):
        self.assertEqual(file_after(*THREE, power(), start(), flush()), BEGUN)
        editor = editor_after(*THREE, power(1))
        self.assertEqual(editor.disk.writes, [])


class WhileACopyIsMade(unittest.TestCase):
    COPY = written([5, 0, 0], [6, 1, 0, 0, 0, 0, 97], [7, 1, 2, 1, 0, 0, 1])
    CALLS = [change(0, 0, b"a"), copy()]

    def test_a_part_of_the_copy(self):
        for many in range(1, len(self.COPY) + 2):
            answered = ask(*self.CALLS, power(many), file(1), start())
            self.assertEqual(answered[3][1:], [0, 0, 0] + self.COPY[:many])
            # the file in use was flushed, and the other one has no head
            self.assertEqual(answered[4], [1, 1, 1, 0])

    def test_the_copy_is_there_and_no_turn(self):
        self.assertEqual(ask(*self.CALLS, flush(), power(), file(1), start())[4:],
                         [[3 + len(self.COPY), 0, 0, 0] + self.COPY, [1, 1, 1, 0]])

    def test_what_was_in_the_other_file_is_gone(self):
        # file 1 in use, then file 0 emptied by the second copy
        calls = [change(0, 0, b"a"), copy(), turn(), change(1, 0, b"b"), copy()]
        self.assertEqual(ask(*calls, power(), file(0), start())[6:], [[0], [2, 2, 2, 1]])

    def test_it_is_told_till_start(self):
        self.assertEqual(last(copy(), power(), state())[7], 1)
        self.assertEqual(last(copy(), flush(), power(), state())[7], 1)
        self.assertEqual(last(copy(), turn(), power(), state())[7], 0)
        self.assertEqual(last(copy(), power(), start(), state())[7], 0)
        self.assertEqual(last(copy(), power(), start(), typed(1))[:3], [1, 1, 1])
        self.assertEqual(last(copy(), power(), start(), turn()), [-8])


class BehindTurn(unittest.TestCase):
    CALLS = [change(0, 0, b"a"), copy(), turn(), change(0, 0, b"b"), change(0, 0, b"c")]
    COPY = WhileACopyIsMade.COPY

    def test_a_part_of_the_head_with_deeds_behind_it(self):
        deeds = written([1, 0, 0, 98], [1, 0, 0, 99])
        for many, head, found in ((0, [0, 0, 0], 0), (1, [2, 0, 0], 0), (2, [2, 0, 0], 0), (3, [2, 0, 255], 1)):
            answered = ask(*self.CALLS, power(many, 8, 8), file(1), start(), was(3))
            self.assertEqual(answered[6][1:], head + self.COPY + deeds)
            self.assertEqual(answered[7], [3, 3, 3, 1] if found else [1, 1, 1, 0])
            self.assertEqual(answered[8], [3, 4, 3, 99, 98, 97] if found else [-2])

    def test_the_head_and_a_part_of_the_deeds(self):
        self.assertEqual(last(*self.CALLS, power(3, 8, 7), start()), [2, 2, 2, 1])
        self.assertEqual(last(*self.CALLS, power(3, 7, 8), start()), [1, 1, 1, 1])
        self.assertEqual(last(*self.CALLS, power(3), start()), [1, 1, 1, 1])
        self.assertEqual(last(*self.CALLS, power(), start()), [1, 1, 1, 0])

    def test_behind_a_flush(self):
        self.assertEqual(last(*self.CALLS, flush(), power(), start()), [3, 3, 3, 1])
        self.assertEqual(last(*self.CALLS[:3], flush(), *self.CALLS[3:], power(8), start()), [2, 2, 2, 1])


class Told(unittest.TestCase):
    def test_state_tells_as_ahead_of_it(self):
        for calls in ([], THREE, THREE + [flush()], THREE + [copy()], THREE + [copy(), turn(), goto(0)]):
            ahead = last(*calls, state())
            for arrived in ([], [1], [TOP] * 4):
                self.assertEqual(last(*calls, power(*arrived), state()),
                                 [0] + ahead[1:3] + [0] + ahead[4:])

    def test_was_tells_as_ahead_of_it(self):
        for many in range(5):
            ahead = last(*THREE, was(many))
            for arrived in ([], [6], [6, 7, 9]):
                self.assertEqual(last(*THREE, power(*arrived), was(many)), ahead)

    def test_there_is_no_power_then(self):
        self.assertEqual(last(power(), power()), [-9])
        self.assertEqual(last(goto(0), power(), power(6)), [-9])
        self.assertEqual(file_after(goto(0), power(2), power(6)), BEGUN + GO[:2])
        editor = editor_after(goto(0), power())
        self.assertEqual(tell(editor, start()), [0, 0, 0, 0])
        self.assertEqual(tell(editor, power()), [0])

    def test_safe_deeds_stay_so(self):
        self.assertEqual(last(*THREE, flush(), undo(), power(6), state())[:3], [0, 4, 3])
        self.assertEqual(EMPTY_SIZE + len(GO), last(goto(0), power(), state())[6])


if __name__ == "__main__":
    unittest.main()
