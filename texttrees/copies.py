"""A copy of a tree, written as records and read again."""

from texttrees.deeds import LONGEST_TEXT, MOST_NUMBERS, refusal_of_change
from texttrees.records import COPIED_END, COPIED_FIRST, COPIED_OTHER, record
from texttrees.refusals import GRANTED
from texttrees.trees import Tree


def copy_of(tree):
    written = record(first_body(tree))
    for state in sorted(tree.parents):
        written = written + record(other_body(tree, state))
    return written + record(end_body(tree))


def first_body(tree):
    return [COPIED_FIRST, tree.first, tree.kept[tree.first]] + tree.first_text


def other_body(tree, state):
    change = tree.changes[state]
    return [COPIED_OTHER, state, tree.parents[state], tree.kept[state], change[0], change[1]] + change[2]


def end_body(tree):
    body = [COPIED_END, tree.now, tree.given, tree.deeds % 256, tree.deeds // 256]
    for state in reversed(list(tree.passed)):
        body = body + [state, tree.passed[state]]
    return body


# The tree that the copy at the beginning of these bodies is of, None where they begin with no copy.
def tree_copied(bodies):
    copied = bodies_of_copy(bodies)
    if copied == []:
        return None
    tree = tree_of_first(copied[0])
    if len(tree.first_text) > LONGEST_TEXT:
        return None
    for body in copied[1:-1]:
        if not other_fits(tree, body):
            return None
        tree.put_state(body[1], body[2], body[3], (body[4], body[5], body[6:]))
    if not end_fits(tree, copied[-1]):
        return None
    take_end(tree, copied[-1])
    return tree


# Up to the first end; none where their sorts are not those of a copy.
def bodies_of_copy(bodies):
    sorts = [body[0] for body in bodies]
    if COPIED_END not in sorts:
        return []
    end = sorts.index(COPIED_END)
    if sorts[:end] != [COPIED_FIRST] + [COPIED_OTHER] * (end - 1):
        return []
    return bodies[:end + 1]


def tree_of_first(body):
    tree = Tree(body[1], body[3:])
    tree.keep(body[1], body[2])
    return tree


# A state is made of one that was there already, so only those ahead of it are asked for.
def other_fits(tree, body):
    if body[1] <= max(tree.numbers()) or not tree.has(body[2]):
        return False
    return refusal_of_change(tree.text_of(body[2]), body[4], body[5], body[6:]) == GRANTED


def end_fits(tree, body):
    given_fits = max(tree.numbers()) < body[2] <= MOST_NUMBERS
    return tree.has(body[1]) and given_fits and pairs_fit(tree, pairs_of(body))


def pairs_of(body):
    return [(body[k], body[k + 1]) for k in range(5, len(body), 2)]


def pairs_fit(tree, pairs):
    states = [pair[0] for pair in pairs]
    made = [tree.parents.get(child) == state for state, child in pairs]
    return len(set(states)) == len(states) and all(made)


def take_end(tree, body):
    tree.now = body[1]
    tree.given = body[2]
    tree.deeds = body[3] + 256 * body[4]
    for state, child in reversed(pairs_of(body)):
        tree.remember(state, child)
