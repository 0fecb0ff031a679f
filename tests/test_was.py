"""The call was: the trees that the first deeds made, of all that weren't lost."""

import unittest

from asking import (TOP, ask, change, copy, editor_after, file, flush, forget, goto, keep, last, power, redo, spoil,
                    start, state, text, tree, turn, typed, undo, was)

DEEDS = [change(0, 0, b"ab"), keep(1), undo(), change(0, 0, b"c"), redo(), goto(1), change(1, 1, b"XY"), forget(2),
         undo()]
# redo is refused, so the deeds are eight; 1 is kept, so 0 goes with the last forget, when 2 is gone
TREES = [[0, 1, 0], [1, 2, 2, 97, 98], [1, 2, 2, 97, 98], [0, 2, 0], [2, 3, 1, 99], [1, 3, 2, 97, 98],
         [3, 4, 3, 97, 88, 89], [3, 2, 3, 97, 88, 89], [1, 2, 2, 97, 98]]


def numbers_given(many):
    """Calls behind which the first copy says so many numbers were given."""
    return [power(), spoil(0, 14, many), spoil(0, 17, 8 + many - 1), start()]


class Ordinary(unittest.TestCase):
    def test_each_number_of_deeds(self):
        self.assertEqual(last(*DEEDS, state())[1], 8)
        self.assertEqual(ask(*DEEDS, *[was(many) for many in range(9)])[9:], TREES)

    def test_none_and_one_more(self):
        self.assertEqual(ask(was(0), was(1), was(TOP)), [[0, 1, 0], [-2], [-2]])
        self.assertEqual(ask(*DEEDS, was(9), was(TOP))[9:], [[-2], [-2]])

    def test_is_what_tree_and_text_told_then(self):
        for many in range(len(DEEDS) + 1):
            editor = editor_after(*DEEDS[:many])
            now = editor.tree.now
            length = last(*DEEDS[:many], text(now))
            told = last(*DEEDS[:many], tree())[:2] + length
            self.assertEqual(last(*DEEDS, was(editor.tree.deeds)), told)

    def test_refused_deeds_are_none(self):
        self.assertEqual(ask(undo(), goto(7), typed(81), was(1), typed(1), was(1), was(2))[3:],
                         [[-2], [1, 1, 1, 27], [1, 2, 1, 7], [-2]])
        self.assertEqual(ask(copy(), typed(1), turn(), was(1))[3:], [[-2]])

    def test_forget_in_which_the_first_went(self):
        calls = [typed(1), typed(1), typed(1), forget(2), undo(), forget(1), typed(2)]
        self.assertEqual(ask(*calls, *[was(many) for many in range(3, 8)])[7:], [
            [3, 4, 3, 7, 7, 7], [3, 2, 3, 7, 7, 7], [2, 2, 2, 7, 7], [2, 1, 2, 7, 7], [4, 2, 4, 7, 7, 7, 7]])

    def test_changes_nothing(self):
        asked = [was(many) for many in range(10)]
        self.assertEqual(ask(*DEEDS, *asked, tree(), state(), redo(), file(0))[19:],
                         ask(*DEEDS, tree(), state(), redo(), file(0))[9:])

    def test_flush_copy_and_turn_are_no_deeds(self):
        calls = [typed(1), flush(), copy(), was(1), was(2), turn(), was(1), typed(1), was(2), was(1)]
        self.assertEqual(ask(*calls)[3:], [[1, 2, 1, 7], [-2], [32], [1, 2, 1, 7], [2, 2, 2, 40], [2, 3, 2, 7, 7],
                                           [1, 2, 1, 7]])


class LostDeeds(unittest.TestCase):
    CALLS = [change(0, 0, b"a"), flush(), change(1, 0, b"b"), change(2, 0, b"c")]

    def test_till_start_they_are_told(self):
        self.assertEqual(ask(*self.CALLS, power(), was(1), was(3), was(4))[5:],
                         [[1, 2, 1, 97], [3, 4, 3, 97, 98, 99], [-2]])

    def test_behind_start_they_are_not(self):
        self.assertEqual(ask(*self.CALLS, power(), start(), was(0), was(1), was(2))[6:],
                         [[0, 1, 0], [1, 2, 1, 97], [-2]])
        self.assertEqual(ask(*self.CALLS, power(8), start(), was(1), was(2), was(3))[6:],
                         [[1, 2, 1, 97], [2, 3, 2, 97, 98], [-2]])
        self.assertEqual(ask(*self.CALLS, power(0, 8), start(), was(1), was(2))[6:], [[1, 2, 1, 97], [-2]])
        self.assertEqual(ask(*self.CALLS, power(8, 8), start(), was(3), was(4))[6:],
                         [[3, 4, 3, 97, 98, 99], [-2]])

    def test_deeds_that_follow(self):
        calls = [*self.CALLS, power(), start(), change(0, 1, b"X"), goto(1)]
        self.assertEqual(ask(*calls, *[was(many) for many in range(5)])[8:],
                         [[0, 1, 0], [1, 2, 1, 97], [2, 3, 1, 88], [1, 3, 1, 97], [-2]])

    def test_two_rounds(self):
        calls = [*self.CALLS, power(8), start(), change(0, 0, b"X"), change(0, 0, b"Y"), power(8), start(), goto(0)]
        self.assertEqual(ask(*calls, *[was(many) for many in range(6)])[11:],
                         [[0, 1, 0], [1, 2, 1, 97], [2, 3, 2, 97, 98], [3, 4, 3, 88, 97, 98], [0, 4, 0], [-2]])

    def test_where_no_file_counts(self):
        calls = [*self.CALLS, power(), spoil(0, 2, 0), start()]
        self.assertEqual(ask(*calls, was(3), was(4))[7:], [[3, 4, 3, 97, 98, 99], [-2]])

    def test_a_spoilt_deed(self):
        calls = [*self.CALLS, power(8, 8), spoil(0, 30, 0), start()]
        self.assertEqual(ask(*calls, was(1), was(2))[7:], [[1, 2, 1, 97], [-2]])


class AnotherTree(unittest.TestCase):
    """Start has found another tree than the deeds had made: the deeds are remembered, not the disk."""

    def test_another_text(self):
        calls = [change(0, 0, b"a"), flush(), power(), spoil(0, 24, 98), spoil(0, 25, 99), start()]
        self.assertEqual(ask(*calls, text(1), was(1))[6:], [[1, 98], [1, 2, 1, 97]])

    def test_the_words_example(self):
        calls = [*numbers_given(3), change(0, 0, [97]), goto(3), change(1, 0, [98])]
        self.assertEqual(ask(*calls, was(0), was(1), was(2), was(3), was(4))[4:],
                         [[3, 1, 1, 27], [3, 1, 2, 33], [4, 2, 3, 41],
                          [0, 1, 0], [1, 2, 1, 97], [3, 2, 0], [2, 3, 0], [-2]])

    def test_a_way_that_goes_round(self):
        # told again 2 is made of 3, which isn't there yet, and 3 of 2
        calls = [*numbers_given(3), change(0, 0, b"a"), goto(3), change(1, 0, b"b"), change(0, 0, b"c")]
        self.assertEqual(last(*calls, text(5)), [3, 99, 97, 98])
        self.assertEqual(last(*calls, was(4)), [3, 4, 4, 99, 99, 98, 98])
        self.assertEqual(last(*calls, goto(5), was(5)), [5, 4, 0])
        # 1 goes, and no other may: with three states the way has four, and 2 is its beginning
        self.assertEqual(last(*calls, forget(2), was(5)), [3, 3, 3, 99, 99, 98])

    def test_a_state_made_of_itself(self):
        calls = [*numbers_given(2), change(0, 0, b"a"), goto(2), change(0, 0, b"c")]
        self.assertEqual(last(*calls, was(3)), [2, 3, 3, 99, 99, 99])
        self.assertEqual(last(*calls, forget(1), was(4)), [2, 2, 2, 99, 99])

    def test_keep_of_a_state_that_is_not_there(self):
        calls = [*numbers_given(3), typed(1), keep(3), goto(0), forget(1)]
        self.assertEqual(ask(*calls, tree(), was(3), was(4))[8:], [[0, 2, 0, 0, 0, 3, 1, 1], [0, 2, 0], [0, 1, 0]])
        # nor is it kept when it is made afterwards
        calls = [*numbers_given(2), typed(1), keep(2), typed(1), goto(0), forget(1)]
        self.assertEqual(ask(*calls, tree(), was(5))[9:], [[0, 2, 0, 0, 0, 2, 1, 1], [0, 1, 0]])

    def test_a_state_that_is_not_there_has_the_first_ones_text(self):
        calls = [*numbers_given(3), change(0, 0, b"a"), change(1, 0, b"b"), forget(1), goto(4)]
        self.assertEqual(ask(*calls, was(3), was(4))[8:], [[2, 1, 2, 97, 98], [4, 1, 2, 97, 98]])

    def test_one_made_of_a_state_that_is_not_there(self):
        # told again 3 is made of 4; its own change tells nothing until 4 is there
        calls = [*numbers_given(3), change(0, 0, b"a"), change(1, 0, b"b"), forget(1), goto(4), change(0, 0, b"c")]
        self.assertEqual(ask(*calls, was(5))[9:], [[3, 2, 2, 97, 98]])
        self.assertEqual(ask(*calls, change(0, 0, b"d"), was(6))[10:], [[4, 3, 5, 100, 99, 100, 97, 98]])

    def test_more_deeds_are_found_than_are_remembered(self):
        calls = [power(), spoil(0, 15, 7), spoil(0, 17, 15), start()]
        self.assertEqual(ask(*calls, was(0), was(1), typed(1), was(1), was(2), state())[3:],
                         [[7, 0, 0, 0], [0, 1, 0], [-2], [1, 1, 8, 27], [1, 2, 1, 7], [-2],
                          [1, 8, 7, 1, 1, 2, 27, 0]])

    def test_fewer_deeds_are_found_than_the_tree_had(self):
        # file 1: three states, 11 bytes each but the first, then the end with two pairs and three deeds done
        calls = [typed(1), typed(1), goto(1), copy(), turn(), flush(), power(), spoil(1, 37, 1)]
        end = [7, 1, 3, 1, 0, 0, 1, 1, 2]
        self.assertEqual(ask(*calls, spoil(1, 43, sum(end)), start(), tree(), was(1), was(2))[7:],
                         [[3], [18], [1, 1, 1, 1], [1, 3, 0, 0, 0, 1, 1, 0, 2, 2, 0], [1, 2, 1, 7], [-2]])

    def test_an_older_file_is_found_again(self):
        # the second deed is lost to a spoilt byte, another is done instead, then the byte is as it was
        calls = [change(0, 0, b"a"), change(0, 0, b"b"), flush(), power(), spoil(0, 34, 0), start(),
                 change(0, 0, b"c"), flush(), power(), spoil(0, 34, 255), spoil(1, 2, 0), start()]
        self.assertEqual(ask(*calls, text(2), was(2), was(3))[11:], [[2, 2, 2, 0], [2, 98, 97], [2, 3, 2, 99, 97], [-2]])

    def test_more_than_forty_numbers(self):
        calls = [*[typed(0)] * 30, goto(0), forget(1), copy(), turn(), flush(), power(), spoil(1, 14, 1),
                 spoil(1, 17, 40), start(), *[typed(1)] * 15]
        self.assertEqual(ask(*calls, tree(), was(47), was(48))[-3:],
                         [last(*[typed(1)] * 15, tree()), [45, 16, 15] + [7] * 15, [-2]])


if __name__ == "__main__":
    unittest.main()
