import unittest

from asking import (EMPTY_SIZE, ask, change, copy, editor_after, flush, forget, goto, keep, last, redo, tell, turn,
                    typed, undo)
from texttrees.disks import Disk
from texttrees.editing import Editor

EMPTY_COPY = [3, 252, 5, 0, 0, 5, 255, 5, 250, 7, 0, 1, 0, 0, 8, 255]


class Files(unittest.TestCase):
    def test_a_write_arrives(self):
        disk = Disk()
        disk.store(0, 2, [1, 2, 3])
        self.assertEqual(disk.files, [[0, 0, 1, 2, 3], []])
        disk.store(0, 1, [9, 9])
        self.assertEqual(disk.files, [[0, 9, 9, 2, 3], []])
        disk.store(0, 4, [5, 6])
        self.assertEqual(disk.files, [[0, 9, 9, 2, 5, 6], []])

    def test_writes_arrive_in_order(self):
        disk = Disk()
        disk.send(1, 0, [1, 1, 1])
        disk.send(0, 0, [4])
        disk.send(1, 1, [2])
        self.assertEqual(disk.files, [[], []])
        disk.arrive()
        self.assertEqual((disk.files, disk.writes), ([[4], [1, 2, 1]], []))


class Beginning(unittest.TestCase):
    def test_of_a_line(self):
        editor = Editor()
        self.assertEqual(editor.disk.files, [[1, 0, 255] + EMPTY_COPY, []])
        self.assertEqual(editor.disk.writes, [])
        self.assertEqual((editor.used, editor.number, editor.size, editor.safe), (0, 1, EMPTY_SIZE, 0))


class Appending(unittest.TestCase):
    def test_each_deed_by_a_write_of_its_own(self):
        editor = editor_after(change(0, 0, b"ab"), change(1, 1, b""), undo(), redo(), goto(0), keep(1), keep(1, 0),
                              forget(9))
        self.assertEqual(editor.disk.writes, [
            (0, 19, [5, 250, 1, 0, 0, 97, 98, 196, 255]),
            (0, 28, [3, 252, 1, 1, 1, 3, 255]),
            (0, 35, [2, 253, 2, 1, 3, 255]),
            (0, 41, [2, 253, 2, 2, 4, 255]),
            (0, 47, [2, 253, 2, 0, 2, 255]),
            (0, 53, [3, 252, 3, 1, 1, 5, 255]),
            (0, 60, [3, 252, 3, 1, 0, 4, 255]),
            (0, 67, [2, 253, 4, 9, 13, 255])])
        self.assertEqual(editor.size, 73)
        self.assertEqual(len(editor.disk.files[0]), EMPTY_SIZE)

    def test_a_size_of_5000_and_one_above(self):
        for call, long in ((typed(3), 10), (keep(0), 7), (forget(9), 6), (goto(0), 6)):
            editor = Editor()
            editor.size = 5000 - long
            self.assertEqual(tell(editor, call)[2:], [1, 5000])
            editor = Editor()
            editor.size = 5001 - long
            self.assertEqual(tell(editor, call), [-6])
        for call in (undo(), redo()):
            editor = editor_after(typed(1), typed(1), undo())
            editor.size = 4994
            self.assertEqual(tell(editor, call)[2:], [4, 5000])
            editor = editor_after(typed(1), typed(1), undo())
            editor.size = 4995
            self.assertEqual(tell(editor, call), [-6])

    def test_65535_deeds(self):
        for call in (typed(3), undo(), redo(), keep(0), forget(9), goto(0)):
            editor = editor_after(typed(1), typed(1), undo())
            editor.tree.deeds = 65534
            self.assertEqual(tell(editor, call)[2], 65535)
            editor = editor_after(typed(1), typed(1), undo())
            editor.tree.deeds = 65535
            self.assertEqual(tell(editor, call), [-6])


class Flush(unittest.TestCase):
    def test_answers_writes_and_safe_deeds(self):
        self.assertEqual(ask(flush(), typed(1), typed(1), flush(), flush(), undo(), flush()),
                         [[0, 0], [1, 1, 1, 27], [2, 2, 2, 35], [2, 2], [0, 2], [1, 1, 3, 41], [1, 3]])

    def test_a_refused_deed_is_neither_written_nor_safe(self):
        self.assertEqual(last(typed(1), goto(9), typed(81), flush()), [1, 1])

    def test_deeds_are_safe_then_and_not_before(self):
        editor = editor_after(typed(1), typed(1))
        self.assertEqual(editor.safe, 0)
        tell(editor, flush())
        self.assertEqual(editor.safe, 2)
        self.assertEqual(editor.disk.files[0][19:], [4, 251, 1, 0, 0, 7, 8, 255] * 2)
        self.assertEqual(len(editor.disk.files[0]), editor.size)

    def test_while_a_copy_is_made(self):
        self.assertEqual(ask(typed(1), copy(), flush(), flush(), turn(), flush())[1:],
                         [[32], [1, 1], [0, 1], [32], [1, 1]])


class Copy(unittest.TestCase):
    def test_answers_how_long_the_other_file_will_be(self):
        self.assertEqual(last(copy()), [EMPTY_SIZE])
        self.assertEqual(last(typed(4), copy()), [3 + 7 + 14 + 11])
        self.assertEqual(last(typed(4), undo(), typed(2), copy()), [3 + 7 + 14 + 12 + 11])
        self.assertEqual(last(typed(4), typed(2), copy()), [3 + 7 + 14 + 12 + 13])
        self.assertEqual(last(typed(4), typed(2), forget(1), copy()), [3 + 13 + 9])

    def test_of_forty_states(self):
        full = [change(0, 0, [1] * 80)] + [change(0, 80, [2] * 80)] * 38
        self.assertEqual(ask(*full, copy(), turn())[39:], [[3607], [3607]])

    def test_flushes(self):
        editor = editor_after(typed(1), typed(1), copy())
        self.assertEqual((editor.safe, len(editor.disk.files[0])), (2, 35))

    def test_one_write_to_place_3_of_the_emptied_file(self):
        editor = editor_after(copy())
        self.assertEqual(editor.disk.writes, [(1, 3, EMPTY_COPY)])
        self.assertEqual(editor.disk.files[1], [])
        tell(editor, flush())
        self.assertEqual(editor.disk.files[1], [0, 0, 0] + EMPTY_COPY)
        tell(editor, turn(), copy())
        self.assertEqual(editor.disk.files, [[], [2, 0, 255] + EMPTY_COPY])

    def test_the_file_in_use_stays_till_turn(self):
        editor = editor_after(typed(1), copy())
        self.assertEqual((editor.used, editor.number, editor.size), (0, 1, 27))

    def test_no_deed_and_no_copy_till_turn(self):
        for call in (typed(1), undo(), redo(), goto(0), keep(0), forget(1), copy()):
            self.assertEqual(last(typed(1), undo(), copy(), call), [-8])
            self.assertEqual(last(typed(1), undo(), copy(), flush(), call), [-8])
            self.assertNotEqual(last(typed(1), typed(1), undo(), copy(), turn(), call), [-8])


class Turn(unittest.TestCase):
    def test_answers_the_size(self):
        self.assertEqual(ask(typed(4), typed(1), undo(), copy(), turn(), typed(1))[3:], [[48], [48], [3, 5, 4, 56]])

    def test_none_is_being_made(self):
        self.assertEqual(last(turn()), [-8])
        self.assertEqual(last(copy(), turn(), turn()), [-8])

    def test_the_copy_arrives_and_the_head_is_on_its_way(self):
        editor = editor_after(copy(), turn())
        self.assertEqual(editor.disk.files[1], [0, 0, 0] + EMPTY_COPY)
        self.assertEqual(editor.disk.writes, [(1, 0, [2, 0, 255])])
        self.assertEqual((editor.used, editor.number, editor.size, editor.copying), (1, 2, EMPTY_SIZE, False))

    def test_deeds_go_to_the_other_file_then(self):
        editor = editor_after(copy(), turn(), keep(0), flush())
        self.assertEqual(editor.disk.files[1], [2, 0, 255] + EMPTY_COPY + [3, 252, 3, 0, 1, 4, 255])
        self.assertEqual(editor.disk.files[0], [1, 0, 255] + EMPTY_COPY)

    def test_and_back_to_the_first_one(self):
        editor = editor_after(typed(1), copy(), turn(), forget(1), copy(), turn(), flush())
        self.assertEqual((editor.used, editor.number), (0, 3))
        self.assertEqual(editor.disk.files[0],
                         [3, 0, 255] + [4, 251, 5, 1, 0, 7, 13, 255] + [5, 250, 7, 1, 2, 2, 0, 12, 255])

    def test_numbers_of_two_bytes(self):
        for number, head in ((255, [0, 1, 255]), (256, [1, 1, 255]), (65534, [255, 255, 255]), (65535, [0, 0, 255])):
            editor = Editor()
            editor.number = number
            tell(editor, copy(), turn())
            self.assertEqual(editor.disk.writes, [(1, 0, head)])
            self.assertEqual(editor.number, (number + 1) % 65536)


if __name__ == "__main__":
    unittest.main()
