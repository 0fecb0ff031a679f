import unittest

from asking import EMPTY_SIZE, TOP, ask, change, editor_after, forget, goto, last, redo, typed, undo


class Change(unittest.TestCase):
    def test_answers_state_length_deeds_and_size(self):
        self.assertEqual(
            ask(change(0, 0, b"hi"), change(1, 1, b"ello"), change(0, 5, b""), change(0, 0, b"")),
            [[1, 2, 1, 28], [2, 5, 2, 39], [3, 0, 3, 46], [4, 0, 4, 53]])

    def test_what_goes_out_and_comes_in(self):
        calls = [change(0, 0, b"abcdef"), change(2, 3, b"XY"), change(5, 0, b"!"), change(0, 1, b"")]
        tree = editor_after(*calls).tree
        self.assertEqual([bytes(tree.text_of(state)) for state in range(5)],
                         [b"", b"abcdef", b"abXYf", b"abXYf!", b"bXYf!"])
        self.assertEqual(last(*calls), [4, 5, 4, 56])

    def test_is_made_of_the_state_now(self):
        self.assertEqual(ask(typed(3), undo(), typed(5), undo())[2:], [[2, 5, 3, 47], [0, 0, 4, 53]])

    def test_at_the_end_and_beyond_it(self):
        self.assertEqual(last(typed(4), change(4, 0, [1])), [2, 5, 2, 38])
        self.assertEqual(last(typed(4), change(5, 0, [1])), [-1])
        self.assertEqual(last(typed(4), change(0, 4, [])), [2, 0, 2, 37])
        self.assertEqual(last(typed(4), change(0, 5, [])), [-1])
        self.assertEqual(last(typed(4), change(3, 1, [])), [2, 3, 2, 37])
        self.assertEqual(last(typed(4), change(3, 2, [])), [-1])
        self.assertEqual(last(typed(4), change(4, 1, [])), [-1])
        self.assertEqual(last(change(TOP, 0, [])), [-1])
        self.assertEqual(last(change(0, TOP, [])), [-1])
        self.assertEqual(last(change(TOP, TOP, [])), [-1])

    def test_bytes(self):
        self.assertEqual(last(change(0, 0, [0, 255])), [1, 2, 1, 28])
        self.assertEqual(last(change(0, 0, [0, 256])), [-1])
        self.assertEqual(last(change(0, 0, [256, 0])), [-1])
        self.assertEqual(last(change(0, 0, [TOP])), [-1])

    def test_80_bytes_and_81(self):
        self.assertEqual(last(typed(80)), [1, 80, 1, EMPTY_SIZE + 87])
        self.assertEqual(last(typed(81)), [-5])
        self.assertEqual(last(typed(100)), [-5])
        self.assertEqual(last(typed(79), typed(1)), [2, 80, 2, 113])
        self.assertEqual(last(typed(79), typed(2)), [-5])
        self.assertEqual(last(typed(80), change(40, 2, [1, 2])), [2, 80, 2, 115])
        self.assertEqual(last(typed(80), change(40, 2, [1, 2, 3])), [-5])
        self.assertEqual(last(typed(80), change(0, 80, [9] * 80)), [2, 80, 2, 193])

    def test_the_40th_number_and_the_41st(self):
        forty = [typed(0)] * 39
        self.assertEqual(last(*forty), [39, 0, 39, EMPTY_SIZE + 39 * 7])
        self.assertEqual(last(*forty, typed(0)), [-5])
        self.assertEqual(last(*forty, goto(0), typed(0)), [-5])

    def test_numbers_of_states_that_went_count(self):
        forty = [typed(0)] * 39
        self.assertEqual(last(*forty, forget(1), typed(0)), [-5])
        self.assertEqual(last(*forty, goto(0), forget(1), typed(0)), [-5])
        self.assertEqual(last(typed(1), undo(), forget(1), typed(1)), [2, 1, 4, 47])

    def test_the_order_of_its_refusals(self):
        full = [typed(80)] + [typed(0)] * 38
        self.assertEqual(last(*full, change(81, 0, [1])), [-1])
        self.assertEqual(last(*full, change(0, 0, [256])), [-1])
        self.assertEqual(last(typed(80), change(0, 0, [256])), [-1])
        self.assertEqual(last(change(1, 0, [1] * 81)), [-1])
        self.assertEqual(last(change(0, 0, [1] * 80 + [256])), [-1])

    def test_redo_goes_to_what_was_made_last(self):
        self.assertEqual(last(typed(1), undo(), typed(2), undo(), redo()), [2, 2, 5, 54])


if __name__ == "__main__":
    unittest.main()
