import unittest

from asking import TOP, ask, editor_after, forget, goto, keep, last, redo, typed, undo

# 0 - 1 - 2, 1 - 3, 0 - 4; now is 4
BRANCHES = [typed(1), typed(1), goto(1), typed(2), goto(0), typed(5)]


def now_after(*calls):
    return last(*calls)[0]


class Undo(unittest.TestCase):
    def test_goes_to_what_the_state_now_was_made_of(self):
        self.assertEqual(ask(typed(3), typed(2), undo(), undo())[2:], [[1, 3, 3, 44], [0, 0, 4, 50]])
        self.assertEqual(last(*BRANCHES, goto(3), undo()), [1, 1, 8, 80])

    def test_the_first_state(self):
        self.assertEqual(last(undo()), [-7])
        self.assertEqual(last(typed(1), undo(), undo()), [-7])
        self.assertEqual(last(*BRANCHES, goto(0), undo()), [-7])

    def test_the_first_state_when_another_was_it_before(self):
        self.assertEqual(last(typed(1), typed(1), forget(2), undo()), [1, 1, 4, 47])
        self.assertEqual(last(typed(1), typed(1), forget(2), undo(), undo()), [-7])
        self.assertEqual(last(typed(1), typed(1), forget(1), undo()), [-7])


class Redo(unittest.TestCase):
    def test_goes_to_what_was_undone(self):
        self.assertEqual(ask(typed(3), typed(2), undo(), undo(), redo(), redo())[4:], [[1, 3, 5, 56], [2, 5, 6, 62]])

    def test_none_made_of_the_state_now(self):
        self.assertEqual(last(redo()), [-7])
        self.assertEqual(last(typed(1), redo()), [-7])
        self.assertEqual(last(*BRANCHES, goto(2), redo()), [-7])

    def test_all_made_of_it_went(self):
        self.assertEqual(last(typed(1), undo(), forget(1), redo()), [-7])
        self.assertEqual(last(typed(1), typed(1), undo(), forget(2), redo()), [-7])

    def test_what_was_gone_through_last_ahead_of_the_highest_number(self):
        self.assertEqual(now_after(*BRANCHES, goto(0), redo()), 4)
        self.assertEqual(now_after(*BRANCHES, goto(1), goto(0), redo()), 1)
        self.assertEqual(now_after(*BRANCHES, goto(1), redo()), 3)
        self.assertEqual(now_after(*BRANCHES, goto(2), goto(1), redo()), 2)

    def test_all_on_the_way_remember(self):
        there = BRANCHES + [goto(2), goto(0)]
        self.assertEqual(now_after(*there, redo()), 1)
        self.assertEqual(now_after(*there, redo(), redo()), 2)
        self.assertEqual(now_after(*BRANCHES, goto(3), goto(4), goto(0), redo()), 4)
        self.assertEqual(now_after(*BRANCHES, goto(2), goto(4), goto(1), redo()), 2)

    def test_what_redo_and_undo_go_through_is_remembered_too(self):
        self.assertEqual(now_after(*BRANCHES, goto(2), undo(), undo(), redo(), undo(), redo()), 1)
        # undo to 1 goes through 1 from 0, not from 1 to any
        self.assertEqual(now_after(*BRANCHES, goto(3), undo(), undo(), goto(4), undo(), redo()), 4)

    def test_the_highest_number_where_what_was_gone_through_last_went(self):
        three = [typed(1), undo(), typed(2), undo(), typed(3), undo()]
        self.assertEqual(now_after(*three, goto(1), undo(), forget(3), redo()), 3)
        self.assertEqual(now_after(*three, keep(1), keep(2), forget(3), redo()), 2)


class Goto(unittest.TestCase):
    def test_goes_to_any_state(self):
        self.assertEqual(ask(*BRANCHES, goto(3), goto(2), goto(0))[6:], [[3, 3, 7, 74], [2, 2, 8, 80], [0, 0, 9, 86]])

    def test_the_state_now_is_a_deed_too(self):
        self.assertEqual(ask(goto(0), typed(1), goto(1)), [[0, 0, 1, 25], [1, 1, 2, 33], [1, 1, 3, 39]])

    def test_no_such_state(self):
        self.assertEqual(last(goto(1)), [-2])
        self.assertEqual(last(typed(1), goto(2)), [-2])
        self.assertEqual(last(goto(TOP)), [-2])

    def test_a_state_that_went(self):
        self.assertEqual(last(typed(1), undo(), forget(1), goto(1)), [-2])
        self.assertEqual(last(typed(1), forget(1), goto(0)), [-2])


class Pairs(unittest.TestCase):
    def pairs_after(self, *calls):
        return list(editor_after(*calls).tree.passed.items())

    def test_order_of_remembering(self):
        self.assertEqual(self.pairs_after(*BRANCHES), [(1, 3), (0, 4)])
        self.assertEqual(self.pairs_after(*BRANCHES, goto(2)), [(0, 1), (1, 2)])
        self.assertEqual(self.pairs_after(*BRANCHES, goto(3), goto(1)), [(1, 3), (0, 1)])
        self.assertEqual(self.pairs_after(typed(1), typed(1), typed(1)), [(0, 1), (1, 2), (2, 3)])

    def test_making_remembers_one_pair_alone(self):
        self.assertEqual(self.pairs_after(*BRANCHES, goto(2), goto(1), typed(1)), [(0, 1), (1, 5)])
        self.assertEqual(self.pairs_after(*BRANCHES, goto(2), undo(), undo(), typed(1)), [(1, 2), (0, 5)])

    def test_what_is_remembered_of_and_by_states_that_go_is_gone(self):
        self.assertEqual(self.pairs_after(*BRANCHES, goto(2), goto(0), forget(4)), [(0, 1)])
        self.assertEqual(self.pairs_after(typed(1), typed(1), forget(2)), [(1, 2)])
        self.assertEqual(self.pairs_after(typed(1), typed(1), forget(1)), [])


if __name__ == "__main__":
    unittest.main()
