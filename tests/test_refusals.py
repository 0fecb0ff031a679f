"""Points 1 to 3: which refusal comes first, and that all is as it was behind one."""

import copy as copies
import random
import unittest

from asking import (TOP, ask, change, copy, editor_after, file, flush, forget, goto, keep, last, power, redo, spoil,
                    start, state, tell, text, tree, turn, typed, undo, was)
from texttrees.editing import Editor

# Refused and granted ones: -9 and -8 come ahead of what each would answer.
DEEDS = [change(TOP, 0, [1]), change(0, 0, [256]), typed(81), undo(), redo(), goto(TOP), keep(TOP), forget(0),
         forget(256), typed(1), goto(0), keep(0), forget(1)]
OWN = [(change(TOP, 0, [1]), -1), (change(0, 0, [256]), -1), (typed(81), -5), (undo(), -7), (redo(), -7),
       (goto(TOP), -2), (keep(TOP), -2), (keep(TOP, 0), -2), (forget(0), -1), (forget(256), -1)]
OTHERS = [(text(TOP), -2), (was(TOP), -2), (turn(), -8), (start(), -9), (spoil(0, 0, 1), -9), (spoil(0, TOP, TOP), -9)]
NEED_POWER = DEEDS + [flush(), copy(), turn(), power(), power(6), text(0), text(TOP), tree()]
WITHOUT_POWER = [(spoil(0, TOP, 0), -1), (spoil(0, 0, 256), -1), (spoil(1, 0, 0), -1), (was(TOP), -2), (start(), -6)]


def snapshot(thing):
    """All that an editor is, down to the order of what's remembered."""
    parts = copies.deepcopy(vars(thing))
    parts["tree"] = [(name, list(value.items()) if isinstance(value, dict) else value)
                     for name, value in vars(parts["tree"]).items()]
    parts["disk"] = vars(parts["disk"])
    return parts


def any_call(source):
    sort = source.randrange(22)
    number = source.choice([0, 1, 2, 3, 4, 5, 6, 7, 40, TOP])
    if sort < 4:
        put = [source.choice([0, 65, 255]) for k in range(source.choice([0, 1, 2, 40, 81]))]
        put = put + source.choice([[], [], [], [256]])
        return change(source.choice([0, 0, 1, 30, 80, TOP]), source.choice([0, 0, 1, 30, TOP]), put)
    if sort == 4:
        return forget(source.choice([0, 1, 2, 5, 255, 256]))
    if sort == 5:
        return power(*[source.choice([0, 5, 9, TOP]) for k in range(source.randrange(5))])
    if sort == 6:
        which = source.randrange(2)
        return spoil(which, source.choice([0, 1, 2, 30, 70, TOP]), source.choice([0, 7, 255, 256]))
    return [undo(), redo(), goto(number), keep(number, source.randrange(2)), flush(), copy(), turn(), typed(1), start(),
            start(), text(number), tree(), file(source.randrange(2)), state(), was(number)][sort - 7]


class Order(unittest.TestCase):
    def test_no_power_is_first(self):
        for call in NEED_POWER:
            for copying in (False, True):
                editor = Editor()
                editor.powered = False
                editor.copying = copying
                self.assertEqual(tell(editor, call), [-9], call)

    def test_no_power_is_first_behind_power_too(self):
        for calls in ([], [typed(2), typed(1), undo()], [copy()], [copy(), turn()]):
            for call in NEED_POWER:
                self.assertEqual(last(*calls, power(), call), [-9], call)
                self.assertNotEqual(last(*calls, power(), start(), call), [-9], call)

    def test_power_is_there(self):
        for call in (start(), spoil(0, 0, 1), spoil(1, TOP, TOP)):
            self.assertEqual(last(call), [-9])
            self.assertEqual(last(copy(), call), [-9])
            self.assertEqual(last(power(), start(), call), [-9])

    def test_those_that_ask_for_no_power_at_all(self):
        for call in (file(0), file(1), state(), was(0)):
            self.assertGreaterEqual(last(call)[0], 0)
            self.assertGreaterEqual(last(power(), call)[0], 0)
            self.assertGreaterEqual(last(power(), spoil(0, 2, 0), start(), call)[0], 0)
            self.assertGreaterEqual(last(copy(), call)[0], 0)

    def test_a_copy_being_made_refuses_no_other_call(self):
        self.assertEqual(ask(copy(), text(0), tree(), was(0), was(1), text(1), flush(), power(), start())[1:],
                         [[0], [0, 1, 0, 0, 0], [0, 1, 0], [-2], [-2], [1, 0], [0], [0, 0, 0, 0]])

    def test_a_copy_being_made_is_next(self):
        for call in DEEDS + [copy()]:
            self.assertEqual(last(copy(), call), [-8], call)
            editor = editor_after(copy())
            editor.size = 5000
            self.assertEqual(tell(editor, call), [-8], call)

    def test_turn_without_a_copy(self):
        self.assertEqual(last(turn()), [-8])
        self.assertEqual(last(typed(1), flush(), turn()), [-8])

    def test_a_full_file_and_too_many_deeds_are_last(self):
        for call, refusal in OWN:
            editor = Editor()
            editor.size = 5000
            self.assertEqual(tell(editor, call), [refusal], call)
            editor = Editor()
            editor.tree.deeds = 65535
            self.assertEqual(tell(editor, call), [refusal], call)
        editor = editor_after(*[typed(0)] * 39)
        editor.size = 5000
        self.assertEqual(tell(editor, typed(0)), [-5])

    def test_flush_copy_and_turn_know_no_full_file(self):
        editor = editor_after(typed(1))
        editor.tree.deeds = 65535
        editor.size = 5000
        self.assertEqual([tell(editor, flush()), tell(editor, copy()), tell(editor, turn())],
                         [[1, 65535], [32], [32]])


class AsItWas(unittest.TestCase):
    def test_behind_each_refusal(self):
        for call, refusal in OWN + OTHERS:
            editor = editor_after(typed(1), flush(), forget(1))
            before = snapshot(editor)
            self.assertEqual(tell(editor, call), [refusal])
            self.assertEqual(snapshot(editor), before)

    def test_behind_each_refusal_without_power(self):
        for call, refusal in [(call, -9) for call in NEED_POWER] + WITHOUT_POWER:
            editor = editor_after(typed(1), flush(), forget(1), typed(2), power(3), spoil(0, 2, 0))
            before = snapshot(editor)
            self.assertEqual(tell(editor, call), [refusal], call)
            self.assertEqual(snapshot(editor), before)

    def test_behind_refusals_of_a_full_file_and_without_power(self):
        for refusal in (-6, -9):
            for call in (typed(1), undo(), redo(), goto(0), keep(0), forget(1)):
                editor = editor_after(typed(1), typed(1), undo())
                editor.powered = refusal != -9
                editor.size = 5000
                before = snapshot(editor)
                self.assertEqual(tell(editor, call), [refusal])
                self.assertEqual(snapshot(editor), before)

    def test_behind_the_refusals_of_any_calls(self):
        met = {}
        for seed in range(300):
            source = random.Random(seed)
            editor = Editor()
            for k in range(60):
                before = snapshot(editor)
                answer = tell(editor, any_call(source))
                if answer[0] < 0:
                    met[answer[0]] = True
                    self.assertEqual(len(answer), 1)
                    self.assertEqual(snapshot(editor), before)
        self.assertEqual(sorted(met), [-9, -8, -7, -6, -5, -2, -1])

    def test_what_only_tells_changes_nothing(self):
        for calls in ([typed(1), flush(), typed(2), undo()], [typed(1), copy()], [typed(1), power()]):
            editor = editor_after(*calls)
            before = snapshot(editor)
            for call in (text(0), text(1), tree(), file(0), file(1), state(), was(0), was(1)):
                tell(editor, call)
                self.assertEqual(snapshot(editor), before)

    def test_refused_calls_change_no_later_answer(self):
        for seed in range(100):
            source = random.Random(seed)
            editor = Editor()
            granted = []
            for k in range(60):
                call = any_call(source)
                answer = tell(editor, call)
                if answer[0] >= 0:
                    granted.append((call, answer))
            anew = Editor()
            self.assertEqual([tell(anew, call) for call, answer in granted], [answer for call, answer in granted])


if __name__ == "__main__":
    unittest.main()
