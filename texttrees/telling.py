"""What an editor tells of itself; nothing is changed by it."""

from texttrees.deeds import tree_made_by
from texttrees.editing import refused
from texttrees.refusals import MISSING, WRONG_POWER


def counted(put):
    return [len(put)] + put


def text_told(editor, state):
    if not editor.powered:
        return refused(WRONG_POWER)
    if not editor.tree.has(state):
        return refused(MISSING)
    return counted(editor.tree.text_of(state))


def tree_told(editor):
    if not editor.powered:
        return refused(WRONG_POWER)
    tree = editor.tree
    told = [tree.now, len(tree.kept)]
    for state in tree.numbers():
        told = told + [state, 0 if state == tree.first else tree.parents[state] + 1, tree.kept[state]]
    return told


def file_told(editor, which):
    return counted(editor.disk.files[which])


def state_told(editor):
    return [1 if editor.powered else 0, editor.tree.deeds, editor.safe, len(editor.disk.writes),
            editor.used, editor.number, editor.size, 1 if editor.copying else 0]


def past_told(editor, many):
    if many > len(editor.remembered):
        return refused(MISSING)
    tree = tree_made_by(editor.remembered[:many])
    return [tree.now, len(tree.kept)] + counted(tree.text_now())
