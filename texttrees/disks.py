"""The disk: two files, and the writes that are on their way to them."""


class Disk:
    def __init__(self):
        self.files = [[], []]
        self.writes = []

    def send(self, which, place, put):
        self.writes.append((which, place, put))

    def arrive(self):
        for which, place, put in self.writes:
            self.store(which, place, put)
        self.writes = []

    def store(self, which, place, put):
        old = self.files[which]
        between = [0] * (place - len(old))
        self.files[which] = old[:place] + between + put + old[place + len(put):]

    def wipe(self, which):
        self.files[which] = []
