"""close, and each call that only tells: cells, cell, tile, same, store and slot, with the edges that the document names."""

import unittest

from helper import (TOP, album_after, ask, ask_behind, box, cell, cells, cells_after, close, copy, counts_after, dots, flat,
                    look_after, page, paste, places_after, same, shift, slot, snapshot, store, tile, undo)
from tilestore.pictures import answers

# Picture 0 has the places 1, 0, 2, 1 and one time before; picture 1 is smaller and has 2, 1.
TWO = [page(0, 2, 2), dots(0, 0, 0, 7, 0, 4, 8, 4, 4, 7), page(1, 1, 2), dots(1, 0, 0, 8, 0, 4, 7)]


class Close(unittest.TestCase):

    def test_answers_how_it_stands(self):
        self.assertEqual(ask(*TWO, close(0))[-2:], [[3, 12], [3, 4]])
        self.assertEqual(ask(*TWO, close(1))[-1], [3, 8])
        self.assertEqual(ask(*TWO, close(0), close(1))[-1], [0, 0])

    def test_each_picture(self):
        pages = [page(p, 1, p + 1) for p in range(4)]
        self.assertEqual(ask(*pages, *[close(p) for p in range(4)])[4:], [[1, 9], [1, 7], [1, 4], [0, 0]])

    def test_there_is_no_such_picture_then(self):
        asked = [close(0), cells(0), cell(0, 0, 0), tile(0, 0), same(0, 1), same(1, 0), same(0, 0), box(0, 0, 0, 1, 1, 1),
                 dots(0), shift(0, 1), copy(0, 1), paste(0, 1, 0, 0), paste(1, 0, 0, 0), undo(0)]
        self.assertEqual(ask(*TWO, close(0), *asked)[5:], [[-1]] * len(asked))

    def test_leaves_the_other_pictures(self):
        behind = [cells(1), tile(1, 0), tile(1, 1), same(1, 1), undo(1), cells(1), undo(1)]
        self.assertEqual(ask(*TWO, close(0), *behind)[5:], [
            [4, 8, 8] + [0] * 15 + [7] + [0] * 15, [2, 1], [1, 1], [2, 2], [1, 2], [4, 8] + [0] * 32, [-4]])

    def test_laid_anew(self):
        calls = [*TWO, close(0), page(0, 1, 1)]
        self.assertEqual(ask(*calls)[-1], [3, 5])
        self.assertEqual(ask(*calls, undo(0), cells(0), tile(0, 0), tile(0, 1))[6:], [
            [-4], [4, 4] + [0] * 16, [0, 3], [-2]])

    def test_copied_onto_anew(self):
        calls = [*TWO, close(0), copy(1, 0)]
        self.assertEqual(ask(*calls, same(0, 1), undo(0))[5:], [[3, 6], [2, 2], [-4]])

    def test_closed_twice_and_laid_between(self):
        self.assertEqual(ask(page(3, 1, 1), close(3), close(3), page(3, 2, 1), close(3), store()), [
            [1, 1], [0, 0], [-1], [1, 2], [0, 0], [1, 0, 0]])


class Cells(unittest.TestCase):

    def test_columns_rows_and_cells_row_by_row(self):
        calls = page(0, 2, 1) + dots(0, 0, 0, 1, 4, 0, 2, 7, 0, 3, 3, 1, 4, 0, 3, 5, 7, 3, 255)
        self.assertEqual(answers(calls + cells(0))[6:], [
            34, 8, 4,
            1, 0, 0, 0, 2, 0, 0, 3,
            0, 0, 0, 4, 0, 0, 0, 0,
            0, 0, 0, 0, 0, 0, 0, 0,
            5, 0, 0, 0, 0, 0, 0, 255])

    def test_each_size(self):
        for w in range(1, 5):
            for h in range(1, 5):
                numbers = [(i + 16 * j) % 256 for j in range(4 * h) for i in range(4 * w)]
                puts = [(i, j, (i + 16 * j) % 256) for j in range(4 * h) for i in range(4 * w)]
                parts = [dots(2, *flat(puts[first:first + 100])) for first in range(0, len(puts), 100)]
                self.assertEqual(ask(page(2, w, h), *parts, cells(2))[-1], [4 * w, 4 * h] + numbers)

    def test_after_each_change(self):
        painted = {(0, 0): 3, (1, 0): 3, (7, 3): 9}
        moved = {(1, 0): 3, (2, 0): 3, (0, 3): 9}
        dotted = {**moved, (0, 0): 6, (3, 0): 6}
        steps = [
            (page(0, 2, 1), 0, {}),
            (box(0, 0, 0, 2, 1, 3), 0, {(0, 0): 3, (1, 0): 3}),
            (dots(0, 7, 3, 9), 0, painted),
            (shift(0, 1), 0, moved),
            (copy(0, 1), 1, moved),
            (dots(1, 0, 0, 6, 3, 0, 6), 1, dotted),
            (paste(0, 1, 2, 0), 1, {**dotted, (3, 0): 3, (4, 0): 3, (2, 3): 9}),
            (undo(1), 1, dotted),
            (undo(0), 0, painted)]
        calls = []
        for call, p, whole in steps:
            calls.append(call)
            numbers = [whole.get((i, j), 0) for j in range(4) for i in range(8)]
            self.assertEqual(ask(*calls, cells(p))[-1], [8, 4] + numbers)


class Cell(unittest.TestCase):

    def test_column_then_row(self):
        calls = [page(0, 3, 2), dots(0, 5, 2, 11, 2, 5, 12, 11, 7, 255)]
        self.assertEqual(ask(*calls, cell(0, 5, 2), cell(0, 2, 5), cell(0, 11, 7), cell(0, 0, 0))[2:], [
            [11], [12], [255], [0]])

    def test_the_last_and_one_further(self):
        calls = [page(0, 3, 2), box(0, 0, 0, 12, 8, 4)]
        self.assertEqual(ask(*calls, cell(0, 11, 7), cell(0, 11, 0), cell(0, 0, 7))[2:], [[4]] * 3)
        further = [cell(0, 12, 7), cell(0, 11, 8), cell(0, 12, 8), cell(0, 7, 11), cell(0, 12, 0), cell(0, 0, 8),
                   cell(0, TOP, 0), cell(0, 0, TOP), cell(0, TOP, TOP), cell(0, 16, 0), cell(0, 0, 16)]
        self.assertEqual(ask(*calls, *further)[2:], [[-2]] * len(further))

    def test_the_last_of_the_smallest_and_the_largest(self):
        for side in (1, 4):
            edge = 4 * side
            asked = [cell(3, edge - 1, edge - 1), cell(3, edge, edge - 1), cell(3, edge - 1, edge)]
            self.assertEqual(ask(page(3, side, side), box(3, 0, 0, TOP, TOP, 1), *asked)[2:], [[1], [-2], [-2]])

    def test_as_cells_tells_them(self):
        calls = [page(0, 2, 2), box(0, 1, 1, 5, 3, 9), shift(0, 3), dots(0, 0, 7, 2)]
        told = ask_behind(calls, [cell(0, i, j) for j in range(8) for i in range(8)])
        self.assertEqual(flat(told), flat(cells_after(0, *calls)))


class Tile(unittest.TestCase):

    def test_place_and_count_row_by_row(self):
        self.assertEqual(ask(*TWO, *[tile(0, i) for i in range(4)], *[tile(1, i) for i in range(2)])[4:], [
            [1, 3], [0, 7], [2, 2], [1, 3], [2, 2], [1, 3]])

    def test_the_last_and_one_further(self):
        for w, h in [(1, 1), (1, 4), (4, 1), (3, 2), (4, 4)]:
            asked = [tile(0, w * h - 1), tile(0, w * h), tile(0, w * h + 1), tile(0, TOP)]
            self.assertEqual(ask(page(0, w, h), *asked)[1:], [[0, w * h], [-2], [-2], [-2]])

    def test_counts_those_of_before_and_of_other_pictures(self):
        calls = [page(0, 1, 1), shift(0, 0), shift(0, 0), shift(0, 0), shift(0, 0), page(1, 1, 1), copy(1, 2)]
        told = [ask(*calls[:many], tile(0, 0))[-1] for many in range(1, 8)]
        self.assertEqual(told, [[0, 1], [0, 2], [0, 3], [0, 4], [0, 4], [0, 5], [0, 6]])


class Same(unittest.TestCase):

    def test_same_numbers_and_same_places(self):
        calls = [page(0, 3, 1), dots(0, 4, 0, 1, 8, 0, 2), copy(0, 1)]
        self.assertEqual(ask(*calls, same(0, 1))[-1], [3, 3])
        # Places 0, 1, 2 against 2, 0, 1: none at its number, all in both.
        self.assertEqual(ask(*calls, shift(1, 4), same(0, 1), same(1, 0))[4:], [[0, 3], [0, 3]])
        # Places 0, 1, 2 against 0, 3, 2.
        self.assertEqual(ask(*calls, dots(1, 4, 0, 5), same(0, 1), same(1, 0))[4:], [[2, 2], [2, 2]])

    def test_nothing_alike(self):
        self.assertEqual(ask(page(0, 2, 2), page(1, 2, 2), box(1, 0, 0, 8, 8, 1), same(0, 1))[-1], [0, 0])

    def test_with_itself(self):
        self.assertEqual(ask(*TWO, same(0, 0), same(1, 1))[4:], [[4, 3], [2, 2]])
        self.assertEqual(ask(page(3, 4, 4), same(3, 3))[-1], [16, 1])

    def test_unlike_sizes(self):
        # Places 1, 0, 2, 1 against 2, 1: compared by the tiles' numbers, as far as both go.
        self.assertEqual(ask(*TWO, same(0, 1), same(1, 0))[4:], [[0, 2], [0, 2]])
        # Places 1, 0, 2, 1 against 1, 0, of which the one is 2 by 2 and the other 1 by 2.
        self.assertEqual(ask(*TWO, dots(1, 0, 0, 7, 0, 4, 0), same(0, 1), same(1, 0))[5:], [[2, 2], [2, 2]])
        self.assertEqual(ask(page(0, 4, 1), page(1, 1, 4), same(0, 1))[-1], [4, 1])
        self.assertEqual(ask(page(0, 4, 4), page(1, 1, 1), same(0, 1), same(1, 0))[2:], [[1, 1], [1, 1]])

    def test_places_that_come_several_times(self):
        calls = [page(0, 4, 1), page(1, 4, 1), box(0, 0, 0, 8, 4, 1), box(1, 4, 0, 8, 4, 1)]
        # Places 1, 1, 0, 0 against 0, 1, 1, 0.
        self.assertEqual(ask(*calls, same(0, 1))[-1], [2, 2])
        # Places 1, 1, 0, 0 against 2, 1, 1, 1.
        self.assertEqual(ask(*calls, box(1, 12, 0, 4, 4, 1), box(1, 0, 0, 4, 4, 2), same(0, 1))[-1], [1, 1])

    def test_how_it_was_before_is_not_asked(self):
        calls = [page(0, 1, 1), page(1, 1, 1), box(0, 0, 0, 1, 1, 1), same(0, 1), undo(0), same(0, 1)]
        self.assertEqual(ask(*calls)[3:], [[0, 0], [1, 2], [1, 1]])


class StoreCall(unittest.TestCase):

    def test_with_no_place(self):
        self.assertEqual(answers([12]), [2, 0, 0])
        self.assertEqual(ask(page(4, 1, 1), cells(0), store()), [[-1], [-1], [0, 0]])

    def test_in_use(self):
        self.assertEqual(ask(*TWO, store())[-1], [3, 3, 7, 3, 2])

    def test_all_free(self):
        self.assertEqual(ask(*TWO, close(0), close(1), store())[-1], [3, 0, 0, 0, 0])

    def test_free_ones_among_those_in_use(self):
        calls = [page(0, 1, 1), page(1, 1, 1)]
        calls += [box(0, 0, 0, 1, 1, 1), box(1, 0, 0, 1, 1, 2), box(0, 0, 0, 1, 1, 3), box(1, 0, 0, 1, 1, 4), page(0, 1, 1)]
        self.assertEqual(ask(*calls, store())[-1], [5, 3, 2, 0, 1, 0, 1])

    def test_agrees_with_how_it_stands(self):
        for call in [close(0), undo(1), page(2, 3, 3), copy(1, 3), shift(0, 2)]:
            stands, told = ask(*TWO, call, store())[-2:]
            self.assertEqual(stands, [told[1], sum(told[2:])])


class Slot(unittest.TestCase):

    def test_sixteen_numbers_row_by_row(self):
        numbers = list(range(240, 256))
        calls = [page(0, 2, 1), dots(0, *flat([(4 + k % 4, k // 4, numbers[k]) for k in range(16)]))]
        self.assertEqual(ask(*calls, slot(0), slot(1), slot(2))[2:], [[0] * 16, numbers, [-2]])

    def test_of_one_that_there_is_not(self):
        self.assertEqual(ask(slot(0), slot(TOP), page(0, 4, 4), slot(0), slot(1), slot(TOP)), [
            [-2], [-2], [1, 16], [0] * 16, [-2], [-2]])

    def test_of_a_free_one_and_of_one_used_again(self):
        calls = [page(0, 1, 1), page(1, 1, 1), box(0, 0, 0, 4, 4, 1), undo(0)]
        self.assertEqual(ask(*calls, slot(0), slot(1), slot(2))[4:], [[0] * 16, [-6], [-2]])
        self.assertEqual(ask(*calls, box(1, 0, 0, 4, 4, 9), slot(1), slot(2))[5:], [[9] * 16, [-2]])

    def test_free_once_its_picture_is_closed(self):
        self.assertEqual(ask(page(0, 1, 1), close(0), slot(0), slot(1), page(0, 1, 1), slot(0))[2:], [
            [-6], [-2], [1, 1], [0] * 16])

    def test_is_the_tile_that_the_picture_has_there(self):
        calls = [page(0, 2, 2), box(0, 1, 1, 5, 5, 3), shift(0, 1)]
        rows = cells_after(0, *calls)
        for number, place in enumerate(places_after(0, *calls)):
            left, top = number % 2 * 4, number // 2 * 4
            self.assertEqual(ask(*calls, slot(place))[-1], flat(row[left:left + 4] for row in rows[top:top + 4]))


class StoreAfterClose(unittest.TestCase):

    def test_what_others_point_to_stays(self):
        calls = [page(0, 1, 1), box(0, 0, 0, 4, 4, 1), copy(0, 1), box(0, 0, 0, 4, 4, 2), close(0)]
        self.assertEqual(ask(*calls, slot(0), slot(1), slot(2), store())[5:], [[-6], [1] * 16, [-6], [3, 1, 0, 1, 0]])
        self.assertEqual(cells_after(1, *calls), [[1] * 4] * 4)

    def test_what_others_pointed_to_before_stays(self):
        calls = [page(0, 1, 1), box(0, 0, 0, 4, 4, 1), copy(0, 1), box(1, 0, 0, 4, 4, 2), close(0)]
        self.assertEqual(counts_after(*calls), [0, 1, 1])
        self.assertEqual(ask(*calls, undo(1), slot(1), slot(2), tile(1, 0))[5:], [[1, 1], [1] * 16, [-6], [1, 1]])

    def test_lets_go_of_all_times_before(self):
        changes = [box(0, 0, 0, 4, 4, n) for n in range(1, 6)]
        calls = [page(0, 1, 1), *changes]
        self.assertEqual(counts_after(*calls), [1, 0, 1, 1, 1])
        self.assertEqual(counts_after(*calls, close(0)), [0, 0, 0, 0, 0])

    def test_the_first_free_one_is_used_first(self):
        calls = [page(0, 1, 1), page(1, 1, 1), box(0, 0, 0, 4, 4, 1), box(1, 0, 0, 4, 4, 2), box(0, 0, 0, 4, 4, 3), close(0)]
        self.assertEqual(counts_after(*calls), [1, 0, 1, 0])
        calls += [page(2, 4, 1), dots(2, 0, 0, 5, 4, 0, 6, 8, 0, 7)]
        self.assertEqual(places_after(2, *calls), [1, 3, 4, 0])
        self.assertEqual(counts_after(*calls), [6, 1, 1, 1, 1])

    def test_one_in_use_goes_ahead_of_a_free_one(self):
        calls = [page(0, 1, 1), page(1, 1, 1), box(1, 0, 0, 4, 4, 2), box(1, 0, 0, 4, 4, 2), shift(1, 0), shift(1, 0), close(0)]
        self.assertEqual(counts_after(*calls), [0, 4])
        self.assertEqual(places_after(2, *calls, copy(1, 2), shift(2, 3)), [1])
        self.assertEqual(places_after(2, *calls, page(2, 1, 1)), [0])


class OnlyTelling(unittest.TestCase):

    def test_leaves_all_as_it_was(self):
        calls = [*TWO, shift(0, 1), close(1), page(3, 1, 1), undo(0)]
        asked = [cells(0), cells(3), cell(0, 1, 1), tile(0, 3), same(0, 3), same(0, 0), store(), slot(0), slot(3)]
        self.assertEqual(snapshot(album_after(*calls, *asked)), snapshot(album_after(*calls)))
        self.assertEqual(look_after(*calls, *asked), look_after(*calls))

    def test_a_second_time_tells_the_same(self):
        asked = [cells(0), cell(0, 1, 1), tile(0, 3), same(0, 1), store(), slot(0), slot(9), cell(0, 9, 9), tile(2, 0)]
        told = ask(*TWO, *asked, *asked)[4:]
        self.assertEqual(told[:len(asked)], told[len(asked):])


if __name__ == "__main__":
    unittest.main()
