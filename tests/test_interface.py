import inspect
import unittest

from asking import (TOP, ask, change, copy, file, flush, forget, goto, joined, keep, parted, power, redo, spoil, start,
                    state, text, tree, turn, typed, undo, was)
from texttrees import editors
from texttrees.editors import answers

LINE = joined([change(0, 0, b"ab"), undo(), redo(), goto(9), keep(0), typed(100), forget(1), flush(), copy(), typed(1),
               turn(), turn(), change(2, 0, []), text(2), tree(), state(), was(1), power(3), file(0), spoil(0, 2, 0),
               was(7), start()])


class Interface(unittest.TestCase):
    def test_one_plain_argument(self):
        self.assertEqual(str(inspect.signature(editors.answers)), "(calls)")

    def test_each_answer_has_its_count_ahead(self):
        self.assertEqual(answers(LINE), [
            4, 1, 2, 1, 28, 4, 0, 0, 2, 34, 4, 1, 2, 3, 40, 1, -2, 4, 1, 2, 4, 47, 1, -5, 4, 1, 2, 5, 53,
            2, 5, 5, 1, 33, 1, -8, 1, 33, 1, -8, 4, 2, 2, 6, 40,
            3, 2, 97, 98, 11, 2, 3, 0, 0, 1, 1, 1, 0, 2, 2, 0, 8, 1, 6, 5, 2, 1, 2, 40, 0, 5, 1, 2, 2, 97, 98, 1, 2,
            54, 53, 1, 0, 255, 3, 252, 5, 0, 0, 5, 255, 5, 250, 7, 0, 1, 0, 0, 8, 255, 5, 250, 1, 0, 0, 97, 98, 196,
            255, 2, 253, 2, 0, 2, 255, 2, 253, 2, 1, 3, 255, 3, 252, 3, 0, 1, 4, 255, 2, 253, 4, 1, 5, 255,
            1, 255, 1, -2, 4, 5, 1, 2, 1])

    def test_how_many_numbers_each_answers(self):
        granted = ask(typed(3), undo(), redo(), goto(1), keep(0), forget(9), flush(), copy(), turn(), power(), start(),
                      text(1), tree(), file(1), state(), was(1), power(), spoil(1, 0, 9))
        self.assertEqual([len(answer) for answer in granted],
                         [4, 4, 4, 4, 4, 4, 2, 1, 1, 1, 4, 1 + 3, 2 + 3 * 2, 1 + 34, 8, 3 + 3, 1, 1])

    def test_a_single_call(self):
        self.assertEqual(answers([6]), [2, 0, 0])
        self.assertEqual(answers([1]), [1, -7])
        self.assertEqual(answers([0, 0, 0, 0]), [4, 1, 0, 1, 26])

    def test_a_row_is_taken_by_its_count(self):
        # the row's numbers would be calls too: 1 undo, 6 flush
        self.assertEqual(answers([0, 0, 0, 2, 1, 6, 6]), [4, 1, 2, 1, 28, 2, 1, 1])
        self.assertEqual(answers([0, 0, 0, 1, 1, 6, 6]), [4, 1, 1, 1, 27, 2, 1, 1, 2, 0, 1])
        self.assertEqual(answers([0, 0, 0, 0, 1, 6, 6]), [4, 1, 0, 1, 26, 4, 0, 0, 2, 32, 2, 2, 2, 2, 0, 2])

    def test_the_row_of_power(self):
        self.assertEqual(answers([9, 0]), [1, 0])
        self.assertEqual(answers([9, 2, 15, 15, 15]), [1, 0, 8, 0, 0, 0, 0, 0, 1, 19, 0])
        self.assertEqual(answers([9, 0, 15, 10, 15]), [1, 0, 8, 0, 0, 0, 0, 0, 1, 19, 0, 4, 0, 0, 0, 0,
                                                       8, 1, 0, 0, 0, 1, 2, 19, 0])
        self.assertEqual(parted(answers([9, 80] + [TOP] * 80 + [16, 0])), [[0], [0, 1, 0]])

    def test_sixty_calls_with_the_longest_rows(self):
        calls = joined([typed(100)] * 60)
        self.assertEqual(len(calls), 6240)
        self.assertEqual(answers(calls), [1, -5] * 60)

    def test_the_list_stays_as_it_was(self):
        class Watched(list):
            def changed(self, *given):
                raise AssertionError("the list that was handed in was changed")

            __setitem__ = __delitem__ = __iadd__ = __imul__ = changed
            append = clear = extend = insert = pop = remove = reverse = sort = changed

        calls = Watched(LINE)
        answers(calls)
        self.assertEqual(list(calls), LINE)

    def test_what_is_given_back_is_a_new_list_of_whole_numbers(self):
        calls = list(LINE)
        answered = answers(calls)
        self.assertIs(type(answered), list)
        self.assertEqual({type(number) for number in answered}, {int})
        answered.clear()
        self.assertEqual(calls, LINE)

    def test_nothing_is_kept_from_one_time_to_the_next(self):
        first = answers(list(LINE))
        answers(joined([typed(5), keep(0), copy()]))
        self.assertEqual(answers(list(LINE)), first)


if __name__ == "__main__":
    unittest.main()
