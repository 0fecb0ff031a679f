"""A file's bytes: its head, which files count and what they say, which one is found."""

from texttrees.copies import copy_of, tree_copied
from texttrees.deeds import do_deed, refusal_of_deed
from texttrees.records import FORGET, read
from texttrees.refusals import GRANTED

HEAD_SIZE = 3


def head(number):
    return [number % 256, number // 256, 255]


# Only of a file that has a head.
def number_of(written):
    return written[0] + 256 * written[1]


# A head has two bytes for its number: behind the highest they begin anew.
def number_behind(number):
    return (number + 1) % 65536


def new_file(number, tree):
    return head(number) + copy_of(tree)


# None where the file doesn't count.
def tree_said(written):
    if written[HEAD_SIZE - 1:HEAD_SIZE] != [255]:
        return None
    bodies = read(written[HEAD_SIZE:])
    tree = tree_copied(bodies)
    if tree is None:
        return None
    # A copy has a record for each state, and one more at its end.
    for body in bodies[len(tree.kept) + 1:]:
        if body[0] > FORGET or refusal_of_deed(tree, body) != GRANTED:
            return tree
        do_deed(tree, body)
    return tree


# Which of the files, None where no file counts.
def found_file(files):
    found = None
    for which, written in enumerate(files):
        if tree_said(written) is not None:
            if found is None or number_of(written) > number_of(files[found]):
                found = which
    return found
