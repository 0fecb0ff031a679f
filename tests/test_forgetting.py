import unittest

from asking import TOP, ask, editor_after, forget, goto, keep, last, states_after, texts_of, typed, undo

CHAIN = [typed(1), typed(1), typed(1)]
# 1, 2 and 3 are made of 0, which is now
STAR = [typed(1), undo(), typed(2), undo(), typed(3), undo()]


class Keep(unittest.TestCase):
    def test_answers(self):
        self.assertEqual(ask(typed(2), keep(0, 1), keep(1, 0), keep(0, 0))[1:],
                         [[1, 2, 2, 35], [1, 2, 3, 42], [1, 2, 4, 49]])

    def test_no_such_state(self):
        self.assertEqual(last(keep(1)), [-2])
        self.assertEqual(last(keep(TOP, 0)), [-2])
        self.assertEqual(last(typed(1), undo(), forget(1), keep(1)), [-2])

    def test_holds_until_it_is_taken_back(self):
        self.assertEqual(states_after(*STAR, keep(1), keep(1), forget(1)), [0, 1])
        self.assertEqual(states_after(*STAR, keep(1), keep(1, 0), forget(1)), [0])
        self.assertEqual(states_after(*STAR, keep(1, 0), forget(1)), [0])


class Forget(unittest.TestCase):
    def test_how_many(self):
        self.assertEqual(last(forget(0)), [-1])
        self.assertEqual(last(forget(1)), [0, 0, 1, 25])
        self.assertEqual(last(forget(255)), [0, 0, 1, 25])
        self.assertEqual(last(forget(256)), [-1])
        self.assertEqual(last(forget(TOP)), [-1])

    def test_answers(self):
        self.assertEqual(last(*CHAIN, forget(2)), [3, 3, 4, 49])

    def test_no_more_than_asked_go(self):
        self.assertEqual(states_after(*STAR, forget(4)), [0, 1, 2, 3])
        self.assertEqual(states_after(*STAR, forget(5)), [0, 1, 2, 3])
        self.assertEqual(states_after(*CHAIN, forget(4)), [0, 1, 2, 3])

    def test_the_lowest_number_first(self):
        self.assertEqual(states_after(*STAR, forget(3)), [0, 2, 3])
        self.assertEqual(states_after(*STAR, forget(2)), [0, 3])
        self.assertEqual(states_after(*STAR, forget(1)), [0])

    def test_only_those_of_which_none_is_made(self):
        # 0 - 1 - 2, 0 - 3, 0 - 4
        tree = [typed(1), typed(1), goto(0), typed(1), goto(0), typed(1)]
        self.assertEqual(states_after(*tree, forget(4)), [0, 1, 3, 4])
        # now that 2 went none is made of 1, which is lower than 3
        self.assertEqual(states_after(*tree, forget(3)), [0, 3, 4])
        self.assertEqual(states_after(*tree, forget(2)), [0, 4])
        self.assertEqual(states_after(*tree, forget(1)), [4])

    def test_the_state_now_stays(self):
        self.assertEqual(states_after(*STAR, goto(1), forget(2)), [0, 1])
        self.assertEqual(states_after(*STAR, goto(1), forget(1)), [1])
        self.assertEqual(states_after(*CHAIN, undo(), forget(1)), [2])

    def test_kept_states_stay(self):
        self.assertEqual(states_after(*STAR, keep(1), keep(2), forget(1)), [0, 1, 2])
        self.assertEqual(states_after(*CHAIN, goto(0), keep(2), forget(1)), [0, 1, 2])

    def test_the_first_goes_when_no_other_can(self):
        self.assertEqual(states_after(*CHAIN, forget(3)), [1, 2, 3])
        self.assertEqual(states_after(*CHAIN, forget(1)), [3])
        self.assertEqual(last(*CHAIN, forget(1), goto(2)), [-2])
        # ends go ahead of the first
        self.assertEqual(states_after(*CHAIN, undo(), forget(3)), [0, 1, 2])

    def test_the_new_first_has_its_text_as_it_was(self):
        tree = editor_after(*CHAIN, forget(2)).tree
        self.assertEqual((tree.first, texts_of(tree), tree.parents), (2, {2: [7, 7], 3: [7, 7, 7]}, {3: 2}))
        self.assertEqual(tree.changes, {3: (0, 0, [7])})
        self.assertEqual(last(*CHAIN, forget(2), undo()), [2, 2, 5, 55])

    def test_nothing_is_left_of_ends_that_went(self):
        tree = editor_after(*STAR, forget(2)).tree
        self.assertEqual((texts_of(tree), tree.parents, tree.changes, tree.kept),
                         ({0: [], 3: [7, 7, 7]}, {3: 0}, {3: (0, 0, [7, 7, 7])}, {0: 0, 3: 0}))

    def test_the_first_stays_if_it_is_now_or_kept(self):
        self.assertEqual(states_after(*CHAIN, goto(0), keep(1), forget(1)), [0, 1])
        self.assertEqual(states_after(*CHAIN, keep(0), forget(1)), [0, 1, 2, 3])
        self.assertEqual(states_after(*CHAIN, keep(1), forget(1)), [1, 2, 3])
        self.assertEqual(states_after(*CHAIN, goto(1), forget(1)), [1])

    def test_the_first_stays_if_more_than_one_are_made_of_it(self):
        self.assertEqual(states_after(*STAR, keep(2), goto(3), forget(1)), [0, 2, 3])
        # 0 - 1 - 2, 1 - 3: 0 goes, then 1 has two
        self.assertEqual(states_after(typed(1), typed(1), keep(2), undo(), typed(1), forget(1)), [1, 2, 3])

    def test_only_those_that_are_there_count_as_made(self):
        self.assertEqual(states_after(*STAR, goto(3), forget(1)), [3])

    def test_keeping_stays_with_the_states(self):
        tree = editor_after(*CHAIN, keep(2), forget(1)).tree
        self.assertEqual(tree.kept, {2: 1, 3: 0})


if __name__ == "__main__":
    unittest.main()
