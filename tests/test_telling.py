"""The calls text, tree, file, spoil and state."""

import unittest

from asking import (EMPTY_SIZE, TOP, ask, change, copy, file, flush, forget, goto, keep, last, power, spoil, start,
                    state, text, tree, turn, typed, undo, was, written)

BEGUN = [1, 0, 255] + written([5, 0, 0], [7, 0, 1, 0, 0])
# 0 - 1 - 2, 1 - 3, 0 - 4; now is 4
BRANCHES = [change(0, 0, b"ab"), change(2, 0, b"c"), undo(), change(0, 2, b"XYZ"), goto(0), change(0, 0, b"q")]


class Text(unittest.TestCase):
    def test_of_each_state(self):
        self.assertEqual(last(text(0)), [0])
        self.assertEqual(ask(*BRANCHES, *[text(number) for number in range(5)])[6:],
                         [[0], [2, 97, 98], [3, 97, 98, 99], [3, 88, 89, 90], [1, 113]])

    def test_the_longest(self):
        self.assertEqual(last(change(0, 0, range(80)), text(1)), [80, *range(80)])

    def test_never_changes(self):
        calls = [*BRANCHES, goto(3), change(0, 3, b""), keep(1), goto(4), flush(), copy(), turn()]
        self.assertEqual(last(*calls, text(3)), [3, 88, 89, 90])
        self.assertEqual(last(*BRANCHES, goto(2), forget(1), text(2)), [3, 97, 98, 99])
        self.assertEqual(last(*BRANCHES, goto(2), forget(2), text(2)), [3, 97, 98, 99])

    def test_no_such_state(self):
        self.assertEqual(last(text(1)), [-2])
        self.assertEqual(last(text(TOP)), [-2])
        self.assertEqual(last(*BRANCHES, text(5)), [-2])
        self.assertEqual(last(*BRANCHES, forget(2), text(2)), [-2])
        self.assertEqual(last(*BRANCHES, forget(1), text(0)), [-2])

    def test_without_power(self):
        self.assertEqual(ask(power(), text(0), text(1))[1:], [[-9], [-9]])
        self.assertEqual(last(typed(1), power(), start(), text(1)), [-2])
        self.assertEqual(last(typed(1), power(8), start(), text(1)), [1, 7])

    def test_while_a_copy_is_made(self):
        self.assertEqual(ask(typed(1), copy(), text(1), text(2))[2:], [[1, 7], [-2]])


class Tree(unittest.TestCase):
    def test_the_first_alone(self):
        self.assertEqual(last(tree()), [0, 1, 0, 0, 0])
        self.assertEqual(last(keep(0), tree()), [0, 1, 0, 0, 1])

    def test_states_by_their_numbers(self):
        self.assertEqual(last(*BRANCHES, tree()), [4, 5, 0, 0, 0, 1, 1, 0, 2, 2, 0, 3, 2, 0, 4, 1, 0])

    def test_what_is_kept(self):
        self.assertEqual(last(typed(1), typed(1), keep(1), keep(2), keep(2, 0), undo(), tree()),
                         [1, 3, 0, 0, 0, 1, 1, 1, 2, 2, 0])

    def test_the_first_is_another_one(self):
        self.assertEqual(last(typed(1), typed(1), typed(1), forget(2), tree()), [3, 2, 2, 0, 0, 3, 3, 0])
        self.assertEqual(last(typed(1), typed(1), typed(1), forget(1), tree()), [3, 1, 3, 0, 0])

    def test_forty_states(self):
        answer = last(*[typed(0)] * 39, tree())
        self.assertEqual(answer[:5] + answer[-3:], [39, 40, 0, 0, 0, 39, 39, 0])
        self.assertEqual(len(answer), 122)

    def test_without_power(self):
        self.assertEqual(last(power(), tree()), [-9])
        self.assertEqual(last(power(), start(), tree()), [0, 1, 0, 0, 0])

    def test_while_a_copy_is_made(self):
        self.assertEqual(last(typed(1), copy(), tree()), [1, 2, 0, 0, 0, 1, 1, 0])


class File(unittest.TestCase):
    def test_at_the_beginning(self):
        self.assertEqual(ask(file(0), file(1)), [[EMPTY_SIZE] + BEGUN, [0]])

    def test_without_what_is_on_its_way(self):
        self.assertEqual(last(typed(1), file(0)), [EMPTY_SIZE] + BEGUN)
        self.assertEqual(last(typed(1), flush(), file(0)), [27] + BEGUN + written([1, 0, 0, 7]))
        self.assertEqual(ask(copy(), file(1), flush(), file(1), turn(), file(1), flush(), file(1))[1::2],
                         [[0], [19, 0, 0, 0] + BEGUN[3:], [19, 0, 0, 0] + BEGUN[3:], [19, 2, 0, 255] + BEGUN[3:]])

    def test_without_power(self):
        self.assertEqual(ask(typed(1), power(2), file(0), file(1))[2:], [[21] + BEGUN + [4, 251], [0]])

    def test_where_no_file_counts(self):
        self.assertEqual(ask(power(), spoil(0, 2, 9), start(), file(0), file(1))[2:],
                         [[-6], [EMPTY_SIZE, 1, 0, 9] + BEGUN[3:], [0]])


class Spoil(unittest.TestCase):
    def test_answers_what_it_was(self):
        for place, byte in enumerate(BEGUN):
            self.assertEqual(ask(power(), spoil(0, place, 77), spoil(0, place, 78))[1:], [[byte], [77]])

    def test_that_byte_alone_is_another_one(self):
        for place in range(EMPTY_SIZE):
            self.assertEqual(last(power(), spoil(0, place, 255), file(0))[1:],
                             BEGUN[:place] + [255] + BEGUN[place + 1:])
            self.assertEqual(last(power(), spoil(0, place, 0), file(1)), [0])

    def test_the_byte_that_it_was(self):
        self.assertEqual(ask(power(), spoil(0, 2, 255), start())[1:], [[255], [0, 0, 0, 0]])

    def test_each_file(self):
        both = [typed(1), copy(), turn(), power()]
        self.assertEqual(ask(*both, spoil(0, 0, 9), spoil(1, 0, 8), file(0), file(1))[4:6], [[1], [0]])
        self.assertEqual(ask(*both, spoil(0, 0, 9), spoil(1, 0, 8), file(0), file(1))[6][:4], [27, 9, 0, 255])
        self.assertEqual(ask(*both, spoil(0, 0, 9), spoil(1, 0, 8), file(0), file(1))[7][:4], [32, 8, 0, 0])

    def test_the_last_byte_and_the_one_behind(self):
        self.assertEqual(last(power(), spoil(0, 18, 1)), [255])
        self.assertEqual(last(power(), spoil(0, 19, 1)), [-1])
        self.assertEqual(last(power(), spoil(0, TOP, 1)), [-1])
        self.assertEqual(last(power(), spoil(1, 0, 1)), [-1])
        self.assertEqual(last(goto(0), power(2), spoil(0, 20, 1)), [253])
        self.assertEqual(last(goto(0), power(2), spoil(0, 21, 1)), [-1])

    def test_no_byte(self):
        self.assertEqual(last(power(), spoil(0, 0, 255)), [1])
        self.assertEqual(last(power(), spoil(0, 0, 256)), [-1])
        self.assertEqual(last(power(), spoil(0, 0, TOP)), [-1])
        self.assertEqual(last(power(), spoil(1, TOP, TOP)), [-1])

    def test_nothing_is_changed_then(self):
        self.assertEqual(ask(power(), spoil(0, 19, 1), spoil(0, 3, 256), spoil(1, 0, 0), file(0), file(1))[4:],
                         [[EMPTY_SIZE] + BEGUN, [0]])

    def test_there_is_power(self):
        self.assertEqual(last(spoil(0, 0, 1)), [-9])
        self.assertEqual(last(spoil(0, 99, 256)), [-9])
        self.assertEqual(last(power(), start(), spoil(0, 0, 1)), [-9])
        self.assertEqual(last(spoil(0, 0, 5), file(0)), [EMPTY_SIZE] + BEGUN)

    def test_state_and_was_do_not_see_it(self):
        calls = [typed(2), flush(), power()]
        for many in range(3):
            self.assertEqual(last(*calls, spoil(0, 24, 1), was(many)), last(*calls, was(many)))
        self.assertEqual(last(*calls, spoil(0, 0, 9), state()), last(*calls, state()))


class State(unittest.TestCase):
    def test_at_the_beginning(self):
        self.assertEqual(last(state()), [1, 0, 0, 0, 0, 1, EMPTY_SIZE, 0])

    def test_deeds_writes_and_size(self):
        self.assertEqual(last(typed(1), keep(0), state()), [1, 2, 0, 2, 0, 1, 34, 0])
        self.assertEqual(last(typed(1), flush(), keep(0), state()), [1, 2, 1, 1, 0, 1, 34, 0])
        self.assertEqual(last(typed(1), keep(9), state()), [1, 1, 0, 1, 0, 1, 27, 0])

    def test_copy_and_turn(self):
        self.assertEqual(ask(typed(1), copy(), state(), flush(), state(), turn(), state(), flush(), state())[2::2],
                         [[1, 1, 1, 1, 0, 1, 27, 1], [1, 1, 1, 0, 0, 1, 27, 1], [1, 1, 1, 1, 1, 2, 32, 0],
                          [1, 1, 1, 0, 1, 2, 32, 0]])

    def test_power_and_start(self):
        self.assertEqual(ask(typed(1), flush(), typed(1), power(), state(), start(), state())[4::2],
                         [[0, 2, 1, 0, 0, 1, 35, 0], [1, 1, 1, 0, 1, 2, 32, 0]])
        self.assertEqual(ask(typed(1), flush(), typed(1), power(8), state(), start(), state())[4::2],
                         [[0, 2, 1, 0, 0, 1, 35, 0], [1, 2, 2, 0, 1, 2, 45, 0]])
        self.assertEqual(ask(typed(1), copy(), power(), state(), start(), state())[3::2],
                         [[0, 1, 1, 0, 0, 1, 27, 1], [1, 1, 1, 0, 1, 2, 32, 0]])
        self.assertEqual(ask(typed(1), copy(), turn(), power(), state(), start(), state())[4::2],
                         [[0, 1, 1, 0, 1, 2, 32, 0], [1, 1, 1, 0, 1, 2, 32, 0]])


if __name__ == "__main__":
    unittest.main()
