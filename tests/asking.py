"""What all tests share: calls in the form of the interface, and ways to ask them."""

from texttrees.editing import Editor
from texttrees.editors import CALLS, answers, split_calls
from texttrees.records import record

EMPTY_SIZE = 19  # head 3, record 5 without text 7, record 7 without pairs 9
TOP = 4294967295


def change(place, out, put):
    return [0, place, out, len(put)] + list(put)


def typed(many):
    """A change that puts so many bytes at the beginning."""
    return change(0, 0, [7] * many)


def undo():
    return [1]


def redo():
    return [2]


def goto(state):
    return [3, state]


def keep(state, kept=1):
    return [4, state, kept]


def forget(many):
    return [5, many]


def flush():
    return [6]


def copy():
    return [7]


def turn():
    return [8]


def power(*arrived):
    return [9, len(arrived)] + list(arrived)


def start():
    return [10]


def text(state):
    return [11, state]


def tree():
    return [12]


def file(which):
    return [13, which]


def spoil(which, place, byte):
    return [14, which, place, byte]


def state():
    return [15]


def was(many):
    return [16, many]


def joined(calls):
    return [number for call in calls for number in call]


def parted(answered):
    parts = []
    while answered:
        parts.append(answered[1:1 + answered[0]])
        answered = answered[1 + answered[0]:]
    return parts


def ask(*calls):
    """The answer to each call."""
    return parted(answers(joined(calls)))


def last(*calls):
    return ask(*calls)[-1]


def tell(editor, *calls):
    """Asks an editor that is at hand; gives back its last answer."""
    answer = None
    for part in split_calls(joined(calls)):
        answer = CALLS[part[0]](editor, part[1:])
    return answer


def editor_after(*calls):
    editor = Editor()
    tell(editor, *calls)
    return editor


def written(*bodies):
    """The records of these bodies, one behind another."""
    return joined(record(body) for body in bodies)


def powerless(*files):
    """An editor without power, with these bytes on its disk."""
    editor = editor_after(power())
    editor.disk.files = [list(data) for data in files]
    return editor


def spoil_all(which, places):
    """A list of calls that spoils each of these places, told with its byte."""
    return [spoil(which, place, places[place]) for place in places]


def states_after(*calls):
    return editor_after(*calls).tree.numbers()


def texts_of(of):
    return {number: of.text_of(number) for number in of.numbers()}
