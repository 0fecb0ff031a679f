"""The disk: two files, and the writes that are on their way to them."""


class Disk:
    def __init__(self):
        self.files = [[], []]
        self.writes = []

    def send(self, which, place, put):
        self.writes.append((which, place, put))

    def arrive(self):
        for which, place, put in self.writes:
            self.store(which, place, put)
        self.writes = []

    # Of each write so many bytes as are told, of those for which nothing is told none.
    def arrive_in_part(self, many_of_each):
        for write, many in zip(self.writes, many_of_each):
            # Storing nothing would still make a file longer that is too short for the place.
            if many > 0:
                self.store(write[0], write[1], write[2][:many])
        self.writes = []

    def store(self, which, place, put):
        old = self.files[which]
        between = [0] * (place - len(old))
        self.files[which] = old[:place] + between + put + old[place + len(put):]

    def wipe(self, which):
        self.files[which] = []
