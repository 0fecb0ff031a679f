"""Deeds on a tree. A deed is told as the body of its record, its numbers not yet held to be bytes."""

from texttrees.records import FORGET, GO, KEEP, MAKE
from texttrees.refusals import BEYOND, FULL, GRANTED, MISSING, NO_ROOM

LONGEST_TEXT = 80
MOST_NUMBERS = 40
MOST_DEEDS = 65535
HIGHEST_BYTE = 255


def refusal_of_deed(tree, deed):
    refusal = refusal_of_its_sort(tree, deed)
    if refusal == GRANTED and tree.deeds >= MOST_DEEDS:
        return NO_ROOM
    return refusal


def refusal_of_its_sort(tree, deed):
    if deed[0] == MAKE:
        return refusal_of_make(tree, deed[1], deed[2], deed[3:])
    if deed[0] == FORGET:
        return GRANTED if 1 <= deed[1] <= HIGHEST_BYTE else BEYOND
    return GRANTED if deed[1] in tree.texts else MISSING


def refusal_of_make(tree, place, out, put):
    length = len(tree.text_now())
    if place + out > length or max(put, default=0) > HIGHEST_BYTE:
        return BEYOND
    if length - out + len(put) > LONGEST_TEXT or tree.given >= MOST_NUMBERS:
        return FULL
    return GRANTED


# Only for a deed that is not refused.
def do_deed(tree, deed):
    if deed[0] == MAKE:
        tree.make(deed[1], deed[2], deed[3:])
    elif deed[0] == GO:
        tree.go(deed[1])
    elif deed[0] == KEEP:
        tree.keep(deed[1], deed[2])
    else:
        tree.forget(deed[1])
    tree.deeds = tree.deeds + 1
