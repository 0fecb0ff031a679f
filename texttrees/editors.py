"""The calls on one editor, as the interface hands them in: one behind another in one list."""

from texttrees.editing import Editor
from texttrees.records import FORGET, GO, KEEP, MAKE
from texttrees.telling import file_told, past_told, state_told, text_told, tree_told


def change(editor, given):
    return editor.do([MAKE] + given)


def undo(editor, given):
    return go_where(editor, editor.tree.undone())


def redo(editor, given):
    return go_where(editor, editor.tree.done_again())


def go_where(editor, state):
    return editor.do(None if state is None else [GO, state])


def goto(editor, given):
    return editor.do([GO] + given)


def keep(editor, given):
    return editor.do([KEEP] + given)


def forget(editor, given):
    return editor.do([FORGET] + given)


def flush(editor, given):
    return editor.flush()


def begin_copy(editor, given):
    return editor.begin_copy()


def turn(editor, given):
    return editor.turn()


def power(editor, given):
    return editor.lose_power(given)


def start(editor, given):
    return editor.start_anew()


def tell_text(editor, given):
    return text_told(editor, given[0])


def tell_tree(editor, given):
    return tree_told(editor)


def tell_file(editor, given):
    return file_told(editor, given[0])


def spoil(editor, given):
    return editor.spoil(given[0], given[1], given[2])


def tell_state(editor, given):
    return state_told(editor)


def was(editor, given):
    return past_told(editor, given[0])


# These three are asked by a call's number: what answers it, how many whole numbers it has, whether a row follows.
CALLS = (change, undo, redo, goto, keep, forget, flush, begin_copy, turn, power, start, tell_text, tell_tree,
         tell_file, spoil, tell_state, was)
WHOLE_NUMBERS = (2, 0, 0, 1, 2, 1, 0, 0, 0, 0, 0, 1, 0, 1, 3, 0, 1)
ROWS = (1, 0, 0, 0, 0, 0, 0, 0, 0, 1, 0, 0, 0, 0, 0, 0, 0)


# Each call by itself: its number and what it was given, without the count ahead of its row.
def split_calls(calls):
    parts = []
    place = 0
    while place < len(calls):
        number = calls[place]
        end = place + 1 + WHOLE_NUMBERS[number]
        part = calls[place:end]
        if ROWS[number] == 1:
            row = end + 1
            end = row + calls[end]
            part = part + calls[row:end]
        parts.append(part)
        place = end
    return parts


def answers(calls):
    editor = Editor()
    answered = []
    for part in split_calls(calls):
        answer = CALLS[part[0]](editor, part[1:])
        answered.append(len(answer))
        answered.extend(answer)
    return answered
