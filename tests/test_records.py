import unittest

from asking import change, editor_after, forget, goto, keep, typed, undo
from texttrees.copies import copy_of
from texttrees.records import read, record

RIGHT = ([1, 0, 0], [1, 2, 3] + [255] * 80, [2, 0], [3, 5, 0], [3, 5, 1], [4, 0], [5, 0, 0], [5, 0, 1, 9, 9],
         [6, 1, 0, 0, 0, 0], [6, 1, 0, 1, 0, 0, 65], [7, 0, 1, 0, 0], [7, 0, 2, 255, 255, 0, 1])
WRONG = ([0], [0, 1], [8, 0, 0], [255], [1], [1, 0], [2], [2, 0, 0], [3, 5], [3, 5, 2], [3, 5, 1, 0], [4], [4, 1, 1],
         [5], [5, 0], [5, 0, 2], [6, 1, 0, 0, 0], [6, 1, 0, 2, 0, 0], [7, 0, 1, 0], [7, 0, 1, 0, 0, 1])


class Records(unittest.TestCase):
    def test_bytes(self):
        self.assertEqual(record([2, 7]), [2, 253, 2, 7, 9, 255])
        self.assertEqual(record([1, 0, 0, 255, 255]), [5, 250, 1, 0, 0, 255, 255, 255, 255])
        self.assertEqual(record([1] * 255), [255, 0] + [1] * 255 + [255, 255])
        self.assertEqual(record([3, 252, 1]), [3, 252, 3, 252, 1, 0, 255])

    def test_are_read_one_behind_another(self):
        self.assertEqual(read([]), [])
        written = []
        for body in RIGHT:
            written = written + record(body)
        self.assertEqual(read(written), list(RIGHT))

    def test_longest_body(self):
        self.assertEqual(read(record([1] * 255)), [[1] * 255])

    def test_reading_ends_at_a_wrong_body(self):
        for body in WRONG:
            self.assertEqual(read(record([2, 3]) + record(body) + record([2, 4])), [[2, 3]], body)

    def test_reading_ends_where_a_record_is_cut(self):
        whole = record([2, 3]) + record([1, 0, 0, 5])
        for long in range(6, len(whole)):
            self.assertEqual(read(whole[:long]), [[2, 3]])
        for long in range(6):
            self.assertEqual(read(whole[:long]), [])

    def test_reading_ends_at_a_spoilt_byte(self):
        whole = record([2, 3]) + record([1, 0, 0, 5]) + record([2, 4])
        for place in range(6, 14):
            for byte in range(256):
                if byte != whole[place]:
                    spoilt = whole[:place] + [byte] + whole[place + 1:]
                    self.assertEqual(read(spoilt), [[2, 3]], (place, byte))

    def test_no_body(self):
        self.assertEqual(read([0, 255, 0, 255]), [])
        self.assertEqual(read([0, 0, 0, 0, 0]), [])

    def test_what_is_read_stays_as_it_was(self):
        whole = record([2, 3]) + [1, 2]
        before = list(whole)
        read(whole)
        self.assertEqual(whole, before)


class Copies(unittest.TestCase):
    def bodies(self, *calls):
        written = copy_of(editor_after(*calls).tree)
        bodies = read(written)
        self.assertEqual(sum(len(body) + 4 for body in bodies), len(written))
        return bodies

    def test_of_the_first_tree(self):
        self.assertEqual(self.bodies(), [[5, 0, 0], [7, 0, 1, 0, 0]])

    def test_changes_as_they_were_made(self):
        self.assertEqual(self.bodies(change(0, 0, b"abc"), change(1, 2, b"X"), undo()), [
            [5, 0, 0], [6, 1, 0, 0, 0, 0, 97, 98, 99], [6, 2, 1, 0, 1, 2, 88], [7, 1, 3, 3, 0, 0, 1, 1, 2]])

    def test_kept_states(self):
        self.assertEqual(self.bodies(keep(0), typed(1), typed(0), keep(2)), [
            [5, 0, 1], [6, 1, 0, 0, 0, 0, 7], [6, 2, 1, 1, 0, 0], [7, 2, 3, 4, 0, 1, 2, 0, 1]])

    def test_states_that_went(self):
        # 0 - 1 - 2, 1 - 3, 1 - 4; 3 and 0 go
        self.assertEqual(
            self.bodies(typed(2), typed(1), keep(2), undo(), typed(0), undo(), typed(1), forget(3)),
            [[5, 1, 0, 7, 7], [6, 2, 1, 1, 0, 0, 7], [6, 4, 1, 0, 0, 0, 7], [7, 4, 5, 8, 0, 1, 4]])

    def test_pairs_the_last_remembered_first(self):
        branches = [typed(0), typed(0), goto(1), typed(0), goto(0), typed(0)]
        self.assertEqual(self.bodies(*branches)[-1], [7, 4, 5, 6, 0, 0, 4, 1, 3])
        self.assertEqual(self.bodies(*branches, goto(2))[-1], [7, 2, 5, 7, 0, 1, 2, 0, 1])
        self.assertEqual(self.bodies(*branches, goto(3), goto(1))[-1], [7, 1, 5, 8, 0, 0, 1, 1, 3])
        self.assertEqual(self.bodies(*branches, goto(2), goto(0))[-1], [7, 0, 5, 8, 0, 1, 2, 0, 1])

    def test_deeds_of_two_bytes(self):
        tree = editor_after(typed(0)).tree
        for deeds, low, high in ((255, 255, 0), (256, 0, 1), (65535, 255, 255)):
            tree.deeds = deeds
            self.assertEqual(read(copy_of(tree))[-1], [7, 1, 2, low, high, 0, 1])


if __name__ == "__main__":
    unittest.main()
