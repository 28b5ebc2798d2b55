"""Points 1 and 2: which refusal is told, and that all is as it was then."""

import unittest

from helper import (TOP, album_after, ask, box, cell, cells, close, copy, dots, look_after, page, paste, same, shift, slot,
                    snapshot, store, tile, undo)

# Pictures 0 and 2 are there, 1 is closed, 3 never was; of the places 0 to 4 place 1 is free.
START = [page(1, 1, 1), box(1, 0, 0, 1, 1, 8), page(0, 2, 1), box(0, 1, 1, 2, 2, 9), page(2, 1, 1), dots(2, 0, 0, 4),
         shift(2, 3), close(1)]
LOOK = look_after(*START)


class Start(unittest.TestCase):

    def test_is_as_told(self):
        self.assertEqual(ask(*START, store())[-1], [5, 4, 4, 0, 1, 1, 1])


class Refusals(unittest.TestCase):

    def refuse(self, number, *calls):
        for call in calls:
            with self.subTest(call=call):
                self.assertEqual(ask(*START, call)[-1], [number])
                self.assertEqual(snapshot(album_after(*START, call)), snapshot(album_after(*START)))
                self.assertEqual(look_after(*START, call), LOOK)

    def take(self, *calls, many=2):
        for call in calls:
            with self.subTest(call=call):
                told = ask(*START, call)[-1]
                self.assertEqual(len(told), many)
                self.assertGreaterEqual(min(told), 0)

    def test_page_above_3(self):
        self.refuse(-1, page(4, 1, 1), page(5, 4, 4), page(TOP, 1, 1))
        self.take(page(3, 1, 1), page(0, 1, 1), page(1, 4, 4))

    def test_page_size(self):
        sizes = [(0, 1), (1, 0), (0, 0), (5, 1), (1, 5), (5, 5), (TOP, 4), (4, TOP)]
        self.refuse(-2, *[page(1, w, h) for w, h in sizes], *[page(0, w, h) for w, h in sizes])
        self.take(page(1, 1, 4), page(1, 4, 1))

    def test_page_tells_its_picture_first(self):
        self.refuse(-1, page(4, 0, 5), page(TOP, TOP, TOP))

    def test_no_such_picture(self):
        for p in (1, 3, 4, TOP):
            self.refuse(-1, box(p, 0, 0, 1, 1, 1), dots(p, 0, 0, 1), dots(p), shift(p, 1), copy(p, 0), undo(p))
            self.refuse(-1, paste(p, 0, 0, 0), paste(0, p, 0, 0), paste(p, p, 0, 0), paste(p, 4, 0, 0))
            self.refuse(-1, close(p), cells(p), cell(p, 0, 0), tile(p, 0))
            self.refuse(-1, same(p, 0), same(0, p), same(p, p), same(p, 4), same(4, p))

    def test_such_a_picture(self):
        for p in (0, 2):
            self.take(close(p), tile(p, 0), same(p, 0), same(2, p), same(p, p))
            self.take(cell(p, 0, 0), many=1)
        self.take(cells(0), many=2 + 32)
        self.take(cells(2), many=2 + 16)

    def test_no_such_picture_is_told_first(self):
        self.refuse(-1, box(1, 0, 0, 1, 1, 256), dots(1, 0), dots(1, 99, 99, 999))
        self.refuse(-1, copy(1, 4), copy(1, 1), copy(TOP, TOP))
        self.refuse(-1, cell(1, 4, 4), cell(3, TOP, 0), cell(4, 0, TOP), cell(TOP, TOP, TOP))
        self.refuse(-1, tile(1, 1), tile(3, 16), tile(4, TOP), tile(TOP, TOP))

    def test_box_number(self):
        self.refuse(-2, box(0, 0, 0, 1, 1, 256), box(0, 0, 0, 1, 1, TOP))
        self.refuse(-2, box(0, 9, 9, 0, 0, 256), box(0, TOP, 0, 1, 1, TOP))
        self.take(box(0, 0, 0, 1, 1, 255), box(0, TOP, TOP, TOP, TOP, 0))

    def test_dots_that_are_not_three_each(self):
        self.refuse(-2, dots(0, 0), dots(0, 0, 0), dots(0, 0, 0, 1, 0), dots(0, 0, 0, 1, 0, 0), dots(0, *[0] * 299))
        self.take(dots(0), dots(0, 0, 0, 1), dots(0, *[0] * 300))

    def test_dots_of_a_cell_that_there_is_not(self):
        self.refuse(-2, dots(0, 8, 0, 1), dots(0, 0, 4, 1), dots(0, TOP, 0, 1), dots(0, 0, TOP, 1), dots(0, 3, 7, 1))
        self.refuse(-2, dots(0, 1, 1, 1, 8, 0, 1), dots(0, 8, 0, 1, 1, 1, 1))
        self.take(dots(0, 7, 3, 1))

    def test_dots_number(self):
        self.refuse(-2, dots(0, 0, 0, 256), dots(0, 0, 0, TOP))
        self.refuse(-2, dots(0, 0, 0, 1, 1, 1, 256), dots(0, 0, 0, 256, 0, 0, 1))
        self.take(dots(0, 0, 0, 255))

    def test_copy_onto_itself_or_above_3(self):
        self.refuse(-2, copy(0, 0), copy(2, 2), copy(0, 4), copy(2, TOP))
        self.take(copy(0, 3), copy(0, 2), copy(2, 0))

    def test_paste_onto_itself(self):
        self.refuse(-2, paste(0, 0, 0, 0), paste(2, 2, TOP, TOP))
        self.take(paste(0, 2, TOP, TOP), paste(2, 0, 0, 0))

    def test_undo_without_a_time_before(self):
        self.assertEqual(ask(page(0, 1, 1), undo(0), undo(0)), [[1, 1], [-4], [-4]])
        self.assertEqual(ask(*START, undo(0), undo(0))[-2:], [[3, 5], [-4]])
        before = [*START, undo(0)]
        self.assertEqual(snapshot(album_after(*before, undo(0))), snapshot(album_after(*before)))

    def test_cell_that_there_is_not(self):
        self.refuse(-2, cell(0, 8, 0), cell(0, 0, 4), cell(0, 8, 4), cell(0, 3, 7), cell(2, 4, 3), cell(2, 3, 4))
        self.refuse(-2, cell(0, TOP, 0), cell(0, 0, TOP), cell(0, TOP, TOP))
        self.take(cell(0, 7, 3), cell(2, 3, 3), many=1)

    def test_tile_that_there_is_not(self):
        self.refuse(-2, tile(0, 2), tile(0, TOP), tile(2, 1), tile(2, 4), tile(2, TOP))
        self.take(tile(0, 1), tile(2, 0))

    def test_slot_of_a_place_that_there_is_not(self):
        self.refuse(-2, slot(5), slot(6), slot(TOP))
        self.assertEqual(ask(slot(0), slot(1), slot(TOP)), [[-2]] * 3)

    def test_slot_of_a_free_place(self):
        self.refuse(-6, slot(1))
        self.take(slot(0), slot(2), slot(3), slot(4), many=16)

    def test_store_is_never_refused(self):
        self.take(store(), many=2 + 5)
        self.assertEqual(ask(store(), page(4, 1, 1), store()), [[0, 0], [-1], [0, 0]])


if __name__ == "__main__":
    unittest.main()
