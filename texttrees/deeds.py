"""Deeds on a tree. A deed is told as the body of its record, its numbers not yet held to be bytes."""

from texttrees.records import FORGET, GO, KEEP, MAKE
from texttrees.refusals import BEYOND, FULL, GRANTED, MISSING, NO_ROOM
from texttrees.trees import Tree

LONGEST_TEXT = 80
MOST_NUMBERS = 40
MOST_DEEDS = 65535
HIGHEST_BYTE = 255


def refusal_of_deed(tree, deed):
    refusal = refusal_of_its_sort(tree, deed)
    if refusal == GRANTED and tree.deeds >= MOST_DEEDS:
        return NO_ROOM
    return refusal


def refusal_of_its_sort(tree, deed):
    if deed[0] == MAKE:
        return refusal_of_make(tree, deed)
    if deed[0] == FORGET:
        return GRANTED if 1 <= deed[1] <= HIGHEST_BYTE else BEYOND
    return GRANTED if tree.has(deed[1]) else MISSING


def refusal_of_make(tree, deed):
    refusal = refusal_of_change(tree.text_now(), deed[1], deed[2], deed[3:])
    if refusal == GRANTED and tree.given >= MOST_NUMBERS:
        return FULL
    return refusal


def refusal_of_change(text, place, out, put):
    if place + out > len(text) or max(put, default=0) > HIGHEST_BYTE:
        return BEYOND
    if len(text) - out + len(put) > LONGEST_TEXT:
        return FULL
    return GRANTED


# It refuses nothing: what is remembered is done to whatever tree it meets.
def do_deed(tree, deed):
    if deed[0] == MAKE:
        tree.make(deed[1], deed[2], deed[3:])
    elif deed[0] == GO:
        tree.go(deed[1])
    elif deed[0] == KEEP:
        tree.keep(deed[1], deed[2])
    else:
        tree.forget(deed[1])
    tree.deeds = tree.deeds + 1


# From a line's beginning on.
def tree_made_by(deeds):
    tree = Tree(0, [])
    for deed in deeds:
        do_deed(tree, deed)
    return tree
