"""Points 1 and 2: which refusal is told, and that all is as it was then."""

import unittest

from helper import TOP, album_after, ask, box, copy, dots, page, paste, shift, snapshot, undo

START = [page(0, 2, 1), box(0, 1, 1, 2, 2, 9), page(2, 1, 1), dots(2, 0, 0, 4), shift(2, 3)]


class Refusals(unittest.TestCase):

    def refuse(self, number, *calls):
        for call in calls:
            with self.subTest(call=call):
                self.assertEqual(ask(*START, call)[-1], [number])
                self.assertEqual(snapshot(album_after(*START, call)), snapshot(album_after(*START)))

    def take(self, *calls):
        for call in calls:
            with self.subTest(call=call):
                self.assertEqual(len(ask(*START, call)[-1]), 2)

    def test_page_above_3(self):
        self.refuse(-1, page(4, 1, 1), page(5, 4, 4), page(TOP, 1, 1))
        self.take(page(3, 1, 1), page(0, 1, 1), page(1, 4, 4))

    def test_page_size(self):
        sizes = [(0, 1), (1, 0), (0, 0), (5, 1), (1, 5), (5, 5), (TOP, 4), (4, TOP)]
        self.refuse(-2, *[page(1, w, h) for w, h in sizes], *[page(0, w, h) for w, h in sizes])
        self.take(page(1, 1, 4), page(1, 4, 1))

    def test_page_tells_its_picture_first(self):
        self.refuse(-1, page(4, 0, 5), page(TOP, TOP, TOP))

    def test_no_such_picture(self):
        for p in (1, 3, 4, TOP):
            self.refuse(-1, box(p, 0, 0, 1, 1, 1), dots(p, 0, 0, 1), dots(p), shift(p, 1), copy(p, 0), undo(p))
            self.refuse(-1, paste(p, 0, 0, 0), paste(0, p, 0, 0), paste(p, p, 0, 0), paste(p, 4, 0, 0))

    def test_no_such_picture_is_told_first(self):
        self.refuse(-1, box(1, 0, 0, 1, 1, 256), dots(1, 0), dots(1, 99, 99, 999))
        self.refuse(-1, copy(1, 4), copy(1, 1), copy(TOP, TOP))

    def test_box_number(self):
        self.refuse(-2, box(0, 0, 0, 1, 1, 256), box(0, 0, 0, 1, 1, TOP))
        self.refuse(-2, box(0, 9, 9, 0, 0, 256), box(0, TOP, 0, 1, 1, TOP))
        self.take(box(0, 0, 0, 1, 1, 255), box(0, TOP, TOP, TOP, TOP, 0))

    def test_dots_that_are_not_three_each(self):
        self.refuse(-2, dots(0, 0), dots(0, 0, 0), dots(0, 0, 0, 1, 0), dots(0, 0, 0, 1, 0, 0), dots(0, *[0] * 299))
        self.take(dots(0), dots(0, 0, 0, 1), dots(0, *[0] * 300))

    def test_dots_of_a_cell_that_there_is_not(self):
        self.refuse(-2, dots(0, 8, 0, 1), dots(0, 0, 4, 1), dots(0, TOP, 0, 1), dots(0, 0, TOP, 1), dots(0, 3, 7, 1))
        self.refuse(-2, dots(0, 1, 1, 1, 8, 0, 1), dots(0, 8, 0, 1, 1, 1, 1))
        self.take(dots(0, 7, 3, 1))

    def test_dots_number(self):
        self.refuse(-2, dots(0, 0, 0, 256), dots(0, 0, 0, TOP))
        self.refuse(-2, dots(0, 0, 0, 1, 1, 1, 256), dots(0, 0, 0, 256, 0, 0, 1))
        self.take(dots(0, 0, 0, 255))

    def test_copy_onto_itself_or_above_3(self):
        self.refuse(-2, copy(0, 0), copy(2, 2), copy(0, 4), copy(2, TOP))
        self.take(copy(0, 3), copy(0, 2), copy(2, 0))

    def test_paste_onto_itself(self):
        self.refuse(-2, paste(0, 0, 0, 0), paste(2, 2, TOP, TOP))
        self.take(paste(0, 2, TOP, TOP), paste(2, 0, 0, 0))

    def test_undo_without_a_time_before(self):
        self.assertEqual(ask(page(0, 1, 1), undo(0), undo(0)), [[1, 1], [-4], [-4]])
        self.assertEqual(ask(*START, undo(0), undo(0))[-2:], [[3, 5], [-4]])
        before = [*START, undo(0)]
        self.assertEqual(snapshot(album_after(*before, undo(0))), snapshot(album_after(*before)))


if __name__ == "__main__":
    unittest.main()
