"""The tree of all states of a text."""


def changed(text, place, out, put):
    return text[:place] + put + text[place + out:]


# The first state alone is not in parents and changes: its text stands for itself.
class Tree:
    def __init__(self):
        self.texts = {0: []}
        self.parents = {}
        self.changes = {}
        self.kept = {0: 0}
        # From a state to the one gone through last, in the order in which the pairs were remembered.
        self.passed = {}
        self.first = 0
        self.now = 0
        self.given = 1
        self.deeds = 0

    def text_now(self):
        return self.texts[self.now]

    def made_of(self, state):
        return [number for number in sorted(self.parents) if self.parents[number] == state]

    # None where the state now is the first.
    def undone(self):
        return self.parents.get(self.now)

    # None where none is made of the state now.
    def done_again(self):
        if self.now in self.passed:
            return self.passed[self.now]
        return max(self.made_of(self.now), default=None)

    def make(self, place, out, put):
        number = self.given
        self.texts[number] = changed(self.text_now(), place, out, put)
        self.parents[number] = self.now
        self.changes[number] = (place, out, put)
        self.kept[number] = 0
        self.remember(self.now, number)
        self.now = number
        self.given = number + 1

    def go(self, state):
        way = self.way_to(state)
        for k in range(1, len(way)):
            self.remember(way[k - 1], way[k])
        self.now = state

    # From the first state on.
    def way_to(self, state):
        way = [state]
        while way[-1] in self.parents:
            way.append(self.parents[way[-1]])
        way.reverse()
        return way

    def remember(self, state, child):
        # A dict leaves a key that is set again in its old place: the old pair must go first.
        self.passed.pop(state, None)
        self.passed[state] = child

    def keep(self, state, kept):
        self.kept[state] = kept

    def forget(self, many):
        end = self.lowest_free_end()
        while len(self.texts) > many and end is not None:
            self.drop(end)
            end = self.lowest_free_end()
        while len(self.texts) > many and self.first_may_go():
            self.drop_first()

    # Of the states of which none is made the lowest that may go, None where there is none such.
    def lowest_free_end(self):
        for state in sorted(self.parents):
            if state != self.now and self.kept[state] == 0 and self.made_of(state) == []:
                return state
        return None

    def first_may_go(self):
        free = self.first != self.now and self.kept[self.first] == 0
        return free and len(self.made_of(self.first)) == 1

    def drop(self, state):
        self.texts.pop(state)
        self.kept.pop(state)
        self.parents.pop(state, None)
        self.changes.pop(state, None)
        for begin in list(self.passed):
            if begin == state or self.passed[begin] == state:
                self.passed.pop(begin)

    def drop_first(self):
        heir = self.made_of(self.first)[0]
        self.drop(self.first)
        self.parents.pop(heir)
        self.changes.pop(heir)
        self.first = heir
