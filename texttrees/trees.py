"""The tree of all states of a text."""


def changed(text, place, out, put):
    return text[:place] + put + text[place + out:]


# The first state alone is not in parents and changes: its text stands for itself.
# Deeds that are remembered may be done to another tree than the one they were done to. So nothing here takes for
# granted that the state now, or the one that a state was made of, is there.
class Tree:
    def __init__(self, first, text):
        self.first = first
        self.first_text = text
        self.parents = {}
        self.changes = {}
        # Of each state that is there: 1 or 0.
        self.kept = {first: 0}
        # From a state to the one gone through last, in the order in which the pairs were remembered.
        self.passed = {}
        self.now = first
        self.given = first + 1
        self.deeds = 0

    def has(self, state):
        return state in self.kept

    def numbers(self):
        return sorted(self.kept)

    def text_now(self):
        return self.text_of(self.now)

    def text_of(self, state):
        text = self.first_text
        for step in self.way_to(state)[1:]:
            change = self.changes[step]
            text = changed(text, change[0], change[1], change[2])
        return text

    # From the first state on. The bound ends a way that goes round.
    def way_to(self, state):
        way = [state]
        while len(way) <= len(self.kept) and self.has(self.parents.get(way[-1])):
            way.append(self.parents[way[-1]])
        way.reverse()
        return way

    def made_of(self, state):
        return [number for number in sorted(self.parents) if self.parents[number] == state]

    # None where the state now is the first.
    def undone(self):
        return self.parents.get(self.now)

    # None where none is made of the state now.
    def done_again(self):
        if self.now in self.passed:
            return self.passed[self.now]
        return max(self.made_of(self.now), default=None)

    def put_state(self, number, parent, kept, change):
        self.parents[number] = parent
        self.kept[number] = kept
        self.changes[number] = change

    def make(self, place, out, put):
        number = self.given
        self.put_state(number, self.now, 0, (place, out, put))
        self.remember(self.now, number)
        self.now = number
        self.given = number + 1

    def go(self, state):
        way = self.way_to(state)
        for k in range(1, len(way)):
            self.remember(way[k - 1], way[k])
        self.now = state

    def remember(self, state, child):
        # A dict leaves a key that is set again in its old place: the old pair must go first.
        self.passed.pop(state, None)
        self.passed[state] = child

    def keep(self, state, kept):
        if self.has(state):
            self.kept[state] = kept

    def forget(self, many):
        end = self.lowest_free_end()
        while len(self.kept) > many and end is not None:
            self.drop(end)
            end = self.lowest_free_end()
        while len(self.kept) > many and self.first_may_go():
            self.drop_first()

    # Of the states of which none is made the lowest that may go, None where there is none such.
    def lowest_free_end(self):
        for state in sorted(self.parents):
            if state != self.now and self.kept[state] == 0 and self.made_of(state) == []:
                return state
        return None

    def first_may_go(self):
        free = self.first != self.now and self.kept[self.first] == 0
        return free and len(self.made_of(self.first)) == 1

    def drop(self, state):
        self.kept.pop(state)
        self.parents.pop(state, None)
        self.changes.pop(state, None)
        for begin in list(self.passed):
            if begin == state or self.passed[begin] == state:
                self.passed.pop(begin)

    def drop_first(self):
        heir = self.made_of(self.first)[0]
        # Its text is told by the way from the first, so it's taken while that is still there.
        self.first_text = self.text_of(heir)
        self.drop(self.first)
        self.parents.pop(heir)
        self.changes.pop(heir)
        self.first = heir
