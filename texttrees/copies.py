"""A copy of a tree, and the head that a file has ahead of it."""

from texttrees.records import COPIED_END, COPIED_FIRST, COPIED_OTHER, record


HEAD_SIZE = 3


def head(number):
    return [number % 256, number // 256, 255]


# A head has two bytes for its number: behind the highest they begin anew.
def number_behind(number):
    return (number + 1) % 65536


def copy_of(tree):
    written = record(first_body(tree))
    for state in sorted(tree.parents):
        written = written + record(other_body(tree, state))
    return written + record(end_body(tree))


def first_body(tree):
    return [COPIED_FIRST, tree.first, tree.kept[tree.first]] + tree.texts[tree.first]


def other_body(tree, state):
    change = tree.changes[state]
    return [COPIED_OTHER, state, tree.parents[state], tree.kept[state], change[0], change[1]] + change[2]


def end_body(tree):
    body = [COPIED_END, tree.now, tree.given, tree.deeds % 256, tree.deeds // 256]
    for state in reversed(list(tree.passed)):
        body = body + [state, tree.passed[state]]
    return body
