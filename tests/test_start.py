"""The call start: which file is found, what it says, and what is behind it."""

import itertools
import unittest

from asking import (ask, change, copy, editor_after, file, flush, forget, goto, keep, last, power, powerless, redo,
                    spoil, start, state, tell, text, tree, turn, typed, undo, was, written)

BEGUN = written([5, 0, 0], [7, 0, 1, 0, 0])


def saying(letter, low=1, high=0):
    """A file with this number whose first state has this letter."""
    return [low, high, 255] + written([5, 0, 0, letter], [7, 0, 1, 0, 0])


class Found(unittest.TestCase):
    def start_of(self, *files):
        editor = powerless(*files)
        answer = tell(editor, start())
        return answer, tell(editor, text(0)), tell(editor, state())[4:6]

    def test_the_one_that_counts(self):
        self.assertEqual(self.start_of(saying(7), []), ([0, 0, 1, 0], [1, 7], [1, 2]))
        self.assertEqual(self.start_of([], saying(7)), ([0, 0, 1, 1], [1, 7], [0, 2]))
        broken = saying(8, 9)[:-1]
        self.assertEqual(self.start_of(saying(7), broken), ([0, 0, 1, 0], [1, 7], [1, 2]))
        self.assertEqual(self.start_of(broken, saying(7)), ([0, 0, 1, 1], [1, 7], [0, 2]))

    def test_the_greater_number(self):
        self.assertEqual(self.start_of(saying(7, 2), saying(8, 3)), ([0, 0, 1, 1], [1, 8], [0, 4]))
        self.assertEqual(self.start_of(saying(7, 3), saying(8, 2)), ([0, 0, 1, 0], [1, 7], [1, 4]))
        self.assertEqual(self.start_of(saying(7, 0, 1), saying(8, 255, 0)), ([0, 0, 1, 0], [1, 7], [1, 257]))
        self.assertEqual(self.start_of(saying(7, 255, 0), saying(8, 0, 1)), ([0, 0, 1, 1], [1, 8], [0, 257]))
        self.assertEqual(self.start_of(saying(7, 255, 0), saying(8, 1, 1)), ([0, 0, 1, 1], [1, 8], [0, 258]))

    def test_alike_numbers(self):
        self.assertEqual(self.start_of(saying(7, 5, 6), saying(8, 5, 6)), ([0, 0, 1, 0], [1, 7], [1, 1542]))
        self.assertEqual(self.start_of(saying(7, 0), saying(8, 0)), ([0, 0, 1, 0], [1, 7], [1, 1]))

    def test_65535_and_0_behind_it(self):
        self.assertEqual(self.start_of(saying(7, 255, 255), []), ([0, 0, 1, 0], [1, 7], [1, 0]))
        self.assertEqual(self.start_of(saying(7, 254, 255), []), ([0, 0, 1, 0], [1, 7], [1, 65535]))
        # 0 follows on 65535, yet it is not the greater one
        self.assertEqual(self.start_of(saying(7, 255, 255), saying(8, 0)), ([0, 0, 1, 0], [1, 7], [1, 0]))
        self.assertEqual(self.start_of(saying(7, 0), saying(8, 255, 255)), ([0, 0, 1, 1], [1, 8], [0, 0]))

    def test_65535_by_the_calls_alone(self):
        calls = [typed(2), flush(), power(), spoil(0, 0, 255), spoil(0, 1, 255), start()]
        self.assertEqual(ask(*calls, state(), file(1))[6:7], [[1, 1, 1, 0, 1, 0, 33, 0]])
        self.assertEqual(last(*calls, file(1))[1:4], [0, 0, 255])
        # the file that was found still counts, with the greater number: what follows is lost though it was flushed
        self.assertEqual(last(*calls, typed(1), flush(), power(), start()), [1, 1, 2, 0])
        # by copy and turn: 65534, then 65535, then 0
        calls[3] = spoil(0, 0, 253)
        self.assertEqual(last(*calls, state())[5], 65534)
        self.assertEqual(last(*calls, copy(), turn(), state())[4:6], [0, 65535])
        self.assertEqual(last(*calls, copy(), turn(), copy(), turn(), state())[4:6], [1, 0])
        self.assertEqual(ask(*calls, copy(), turn(), copy(), turn(), flush(), file(1))[-1][1:4], [0, 0, 255])

    def test_each_file_by_the_calls_alone(self):
        self.assertEqual(last(typed(1), flush(), power(), start()), [1, 1, 1, 0])
        self.assertEqual(last(typed(1), copy(), turn(), flush(), power(), start()), [1, 1, 1, 1])
        self.assertEqual(last(typed(1), copy(), turn(), power(), start()), [1, 1, 1, 0])
        both = [typed(1), copy(), turn(), typed(1), flush(), power()]
        self.assertEqual(last(*both, start()), [2, 2, 2, 1])
        self.assertEqual(last(*both, spoil(1, 0, 1), start()), [1, 1, 1, 0])
        self.assertEqual(last(*both, spoil(1, 0, 0), start()), [1, 1, 1, 0])
        self.assertEqual(last(*both, spoil(0, 1, 1), start()), [1, 1, 1, 0])
        self.assertEqual(last(*both, spoil(1, 2, 254), start()), [1, 1, 1, 0])
        self.assertEqual(last(*both, spoil(0, 2, 254), start()), [2, 2, 2, 1])


class NoneCounts(unittest.TestCase):
    LOST = [typed(2), flush(), typed(3), power(), spoil(0, 2, 0)]

    def test_is_refused(self):
        self.assertEqual(last(*self.LOST, start()), [-6])
        self.assertEqual(tell(powerless([], []), start()), [-6])
        self.assertEqual(tell(powerless([1], [1, 0]), start()), [-6])
        self.assertEqual(tell(powerless([1, 0, 255], []), start()), [-6])

    def test_all_is_as_it_was(self):
        told = [state(), was(0), was(2), was(3), file(0), file(1), typed(1), tree(), text(0), flush(), power()]
        self.assertEqual(ask(*self.LOST, start(), *told)[6:], ask(*self.LOST, *told)[5:])
        self.assertEqual(last(*self.LOST, start(), state()), [0, 2, 1, 0, 0, 1, 38, 0])
        self.assertEqual(last(copy(), power(), spoil(0, 2, 0), start(), state())[7], 1)

    def test_spoilt_back_it_starts(self):
        self.assertEqual(ask(*self.LOST, start(), start(), spoil(0, 2, 255), start(), was(2))[5:],
                         [[-6], [-6], [0], [1, 1, 2, 0], [-2]])


class Behind(unittest.TestCase):
    CALLS = [change(0, 0, b"ab"), change(2, 0, b"c"), keep(1), undo(), flush(), typed(9), power(6), start()]
    COPY = written([5, 0, 0], [6, 1, 0, 1, 0, 0, 97, 98], [6, 2, 1, 0, 2, 0, 99], [7, 1, 3, 4, 0, 0, 1, 1, 2])

    def test_answers(self):
        self.assertEqual(ask(*self.CALLS)[6:], [[1], [4, 1, 2, 0]])

    def test_the_other_file_has_a_head_and_a_copy(self):
        self.assertEqual(last(*self.CALLS, file(1))[1:], [2, 0, 255] + self.COPY)

    def test_the_file_found_stays(self):
        ahead = last(*self.CALLS[:-1], file(0))
        self.assertEqual(last(*self.CALLS, file(0)), ahead)

    def test_what_was_in_the_other_file_is_gone(self):
        calls = [typed(40), copy(), turn(), forget(1), flush(), typed(1), power(), start()]
        # found is file 1, so file 0, which was longer, is begun anew
        self.assertEqual(last(*calls, file(0))[1:], [3, 0, 255] + written([5, 1, 0] + [7] * 40, [7, 1, 2, 2, 0]))

    def test_state(self):
        self.assertEqual(last(*self.CALLS, state()), [1, 4, 4, 0, 1, 2, 3 + len(self.COPY), 0])

    def test_the_tree(self):
        self.assertEqual(last(*self.CALLS, tree()), [1, 3, 0, 0, 0, 1, 1, 1, 2, 2, 0])
        self.assertEqual(last(*self.CALLS, text(2)), [3, 97, 98, 99])

    def test_what_can_be_done_again(self):
        branches = [typed(1), goto(0), typed(2), goto(0), typed(3), goto(1), goto(0), flush(), power(), start()]
        self.assertEqual(last(*branches, redo())[0], 1)
        self.assertEqual(last(*branches, power(), start(), redo())[0], 1)

    def test_pairs_keep_their_order(self):
        calls = [typed(0), typed(0), goto(1), typed(0), goto(0), typed(0), goto(3), goto(1), copy(), turn(), flush()]
        pairs = written([7, 1, 5, 8, 0, 0, 1, 1, 3])
        self.assertEqual(last(*calls, file(1))[-len(pairs):], pairs)
        self.assertEqual(last(*calls, power(), start(), file(0))[-len(pairs):], pairs)
        self.assertEqual(last(*calls, power(), start(), power(), start(), file(1))[-len(pairs):], pairs)

    def test_deeds_are_appended_to_the_file_in_use(self):
        size = 3 + len(self.COPY)
        self.assertEqual(last(*self.CALLS, change(0, 1, b"X")), [3, 2, 5, size + 8])
        self.assertEqual(last(*self.CALLS, change(0, 1, b"X"), flush(), file(1))[1:],
                         [2, 0, 255] + self.COPY + written([1, 0, 1, 88]))
        self.assertEqual(last(*self.CALLS, change(0, 1, b"X"), state()), [1, 5, 4, 1, 1, 2, size + 8, 0])

    def test_another_power_and_start(self):
        self.assertEqual(last(*self.CALLS, power(), start()), [4, 1, 2, 1])
        more = [*self.CALLS, change(0, 1, b"X"), change(0, 1, b"Y")]
        self.assertEqual(ask(*more, power(8, 7), start(), state(), text(3))[11:],
                         [[5, 3, 2, 1], [1, 5, 5, 0, 0, 3, 57, 0], [2, 88, 98]])
        self.assertEqual(ask(*more, power(8, 8), start(), power(), start(), power(), start(), text(4), state())[11:],
                         [[6, 4, 2, 1], [0], [6, 4, 2, 0], [0], [6, 4, 2, 1], [2, 89, 98], [1, 6, 6, 0, 0, 5, 70, 0]])

    def test_nothing_is_on_its_way(self):
        self.assertEqual(last(*self.CALLS, flush()), [0, 4])
        self.assertEqual(last(*self.CALLS, power(9)), [0])

    def test_copy_and_turn_go_on(self):
        self.assertEqual(ask(*self.CALLS, copy(), turn(), flush(), file(0))[-1][1:], [3, 0, 255] + self.COPY)
        self.assertEqual(last(*self.CALLS, copy(), turn(), power(3), start())[3], 0)
        self.assertEqual(last(*self.CALLS, copy(), turn(), power(2), start())[3], 1)

    def test_forty_numbers_stay_forty(self):
        self.assertEqual(last(*[typed(0)] * 39, forget(1), flush(), power(), start(), typed(0)), [-5])
        self.assertEqual(last(*[typed(0)] * 38, forget(1), flush(), power(), start(), typed(0)), [39, 0, 40, 26])

    def test_there_is_power_already(self):
        self.assertEqual(last(start()), [-9])
        self.assertEqual(last(*self.CALLS, start()), [-9])
        self.assertEqual(ask(*self.CALLS, start(), state())[9:], ask(*self.CALLS, state())[8:])


class NeverHalfOfOne(unittest.TestCase):
    """The tree found is what the first deeds made, as many as were safe, or more."""

    DEEDS = [change(0, 0, b"ab"), keep(1), undo(), change(0, 0, b"c"), goto(1), forget(2)]

    def whole(self, many):
        return last(*self.DEEDS[:many], tree()), last(*self.DEEDS[:many], copy(), flush(), file(1))[1:]

    def test_after_any_part_of_one_write(self):
        for many, deed in enumerate(self.DEEDS):
            long = len(editor_after(*self.DEEDS[:many], deed).disk.writes[-1][2])
            for part in range(long + 1):
                calls = [*self.DEEDS[:many], flush(), deed, power(part), start()]
                found = many + 1 if part == long else many
                self.assertEqual((last(*calls)[0], last(*calls, tree())), (found, self.whole(found)[0]))
                self.assertEqual(last(*calls, file(1))[4:], self.whole(found)[1][3:])

    def test_whichever_writes_arrive(self):
        for safe in range(len(self.DEEDS) + 1):
            late = self.DEEDS[safe:]
            for arrived in itertools.product((0, 3, 99), repeat=len(late)):
                calls = [*self.DEEDS[:safe], flush(), *late, power(*arrived), start()]
                found = safe + len(list(itertools.takewhile(lambda part: part == 99, arrived)))
                self.assertEqual((last(*calls)[0], last(*calls, tree())), (found, self.whole(found)[0]))


class Said(unittest.TestCase):
    def test_the_tree_of_the_first_file(self):
        self.assertEqual(ask(power(), start(), tree(), file(1))[1:],
                         [[0, 0, 0, 0], [0, 1, 0, 0, 0], [19, 2, 0, 255] + BEGUN])

    def test_all_sorts_of_deeds(self):
        calls = [typed(3), typed(2), undo(), typed(1), goto(2), keep(3), undo(), redo(), keep(3, 0), keep(1), forget(3)]
        ahead = last(*calls, tree())
        self.assertEqual(last(*calls, flush(), power(), start(), tree()), ahead)
        self.assertEqual(last(*calls, flush(), power(), start()), [11, 2, 5, 0])


if __name__ == "__main__":
    unittest.main()
