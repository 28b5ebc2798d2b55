"""The form of calls and answers; and each call that changes a picture, at ordinary inputs and at the edges."""

import unittest

from helper import (TOP, ask, box, cell, cells, cells_after, close, copy, dots, page, paste, same, shift, slot, store,
                    tile, undo)
from tilestore.pictures import answers

ONE_ROW_EACH = dots(0, *[number for i in range(8) for number in (i, 0, i + 1)])


def rows_with(wide, high, cells):
    return [[cells.get((i, j), 0) for i in range(wide)] for j in range(high)]


class Form(unittest.TestCase):

    def test_two_numbers_with_their_count_ahead_for_each_change(self):
        calls = [0, 0, 2, 1, 1, 0, 0, 0, 1, 1, 9, 2, 0, 3, 7, 3, 5, 3, 0, 4, 4, 0, 1, 5, 0, 1, 1, 0, 6, 0]
        self.assertEqual(answers(calls), [
            2, 1, 2,
            2, 2, 4,
            2, 3, 6,
            2, 3, 8,
            2, 3, 10,
            2, 4, 12,
            2, 4, 10])

    def test_a_refusal_is_one_number_with_its_count_ahead(self):
        self.assertEqual(answers([6, 0]), [1, -1])
        self.assertEqual(answers([0, 0, 1, 1, 6, 0, 0, 4, 1, 1]), [2, 1, 1, 1, -4, 1, -1])

    def test_all_fourteen_in_one_list(self):
        calls = [
            0, 0, 1, 1,  1, 0, 0, 0, 1, 1, 9,  12,  2, 0, 3, 3, 3, 5,  8, 0,  3, 0, 1,  9, 0, 0, 3,  4, 0, 1,  11, 0, 1,
            5, 0, 1, 1, 0,  10, 1, 0,  6, 1,  13, 1,  7, 0,  12]
        self.assertEqual(answers(calls), [
            2, 1, 1,
            2, 2, 2,
            4, 2, 2, 1, 1,
            2, 3, 3,
            18, 4, 4, 9, 0, 0, 0, 0, 0, 0, 0, 0, 0, 0, 0, 0, 0, 0, 5,
            2, 4, 4,
            1, 5,
            2, 4, 5,
            2, 1, 1,
            2, 5, 6,
            2, 4, 1,
            2, 4, 5,
            16, 9, 0, 0, 0, 0, 0, 0, 0, 0, 0, 0, 0, 0, 0, 0, 0,
            2, 1, 1,
            7, 5, 1, 0, 0, 0, 1, 0])

    def test_each_call_may_come_first(self):
        firsts = [box(0, 0, 0, 1, 1, 1), dots(0, 0, 0, 1), dots(0), shift(0, 1), copy(0, 1), paste(0, 1, 0, 0), undo(0),
                  close(0), cells(0), cell(0, 0, 0), tile(0, 0), same(0, 0), same(0, 1)]
        for first in firsts:
            self.assertEqual(ask(first, page(0, 1, 1)), [[-1], [1, 1]])
        self.assertEqual(ask(store(), page(0, 1, 1)), [[0, 0], [1, 1]])
        self.assertEqual(ask(slot(0), page(0, 1, 1)), [[-2], [1, 1]])

    def test_each_call_may_come_alone_and_last(self):
        self.assertEqual(answers(store()), [2, 0, 0])
        self.assertEqual(answers(slot(0)), [1, -2])
        self.assertEqual(answers(cells(0)), [1, -1])
        self.assertEqual(answers(store() * 40), [2, 0, 0] * 40)
        self.assertEqual(answers(page(0, 1, 1) + cells(0)), [2, 1, 1, 18, 4, 4] + [0] * 16)

    def test_the_row_of_dots_ends_where_its_count_says(self):
        self.assertEqual(answers([0, 0, 1, 1, 2, 0, 0, 6, 0]), [2, 1, 1, 2, 1, 2, 2, 1, 1])
        self.assertEqual(answers([0, 0, 1, 1, 2, 0, 2, 6, 0, 6, 0]), [2, 1, 1, 1, -2, 1, -4])
        self.assertEqual(answers([2, 9, 4, 6, 0, 6, 0, 0, 0, 1, 1]), [1, -1, 2, 1, 1])

    def test_answers_are_whole_numbers_in_a_list(self):
        told = answers(page(0, 1, 1) + undo(0) + box(0, 0, 0, 1, 1, 1) + cells(0) + cell(0, 0, 0) + tile(0, 0)
                       + same(0, 0) + store() + slot(1) + close(0) + slot(0))
        self.assertIs(type(told), list)
        self.assertEqual({type(number) for number in told}, {int})

    def test_forty_calls_with_the_longest_rows(self):
        calls = [page(0, 4, 4)] + [dots(0, *[15, 15, 7] * 100)] * 39
        self.assertEqual(len([number for call in calls for number in call]), 4 + 39 * 303)
        self.assertEqual(ask(*calls), [[1, 16], [2, 32], [2, 48], [2, 64]] + [[2, 64]] * 36)

    def test_forty_calls_with_the_longest_answers(self):
        calls = [page(0, 4, 4), box(0, 0, 0, 16, 16, 255)] + [cells(0)] * 38
        self.assertEqual(ask(*calls), [[1, 16], [2, 32]] + [[16, 16] + [255] * 256] * 38)


class Page(unittest.TestCase):

    def test_each_size(self):
        for w in range(1, 5):
            for h in range(1, 5):
                self.assertEqual(ask(page(0, w, h)), [[1, w * h]])
                self.assertEqual(cells_after(0, page(0, w, h)), rows_with(4 * w, 4 * h, {}))

    def test_each_picture(self):
        self.assertEqual(ask(*[page(p, 1, 2) for p in range(4)]), [[1, 2], [1, 4], [1, 6], [1, 8]])

    def test_onto_a_picture_that_has_been_otherwise(self):
        calls = [page(2, 2, 2), box(2, 0, 0, 1, 1, 1), box(2, 4, 0, 1, 1, 2), page(2, 1, 3), undo(2)]
        self.assertEqual(ask(*calls), [[1, 4], [2, 8], [3, 12], [1, 3], [-4]])
        self.assertEqual(cells_after(2, *calls), rows_with(4, 12, {}))

    def test_leaves_the_other_pictures(self):
        calls = [page(0, 1, 1), box(0, 0, 0, 4, 4, 1), copy(0, 1), page(0, 1, 1)]
        self.assertEqual(ask(*calls)[-1], [2, 2])
        self.assertEqual(cells_after(1, *calls), [[1] * 4] * 4)


class Box(unittest.TestCase):

    def test_columns_and_rows(self):
        calls = [page(0, 2, 1), box(0, 3, 1, 2, 3, 255)]
        cells = {(i, j): 255 for i in (3, 4) for j in (1, 2, 3)}
        self.assertEqual(cells_after(0, *calls), rows_with(8, 4, cells))
        self.assertEqual(ask(*calls), [[1, 2], [3, 4]])

    def test_partly_outside(self):
        cells = cells_after(0, page(0, 1, 2), box(0, 3, 6, 9, TOP, 7))
        self.assertEqual(cells, rows_with(4, 8, {(3, 6): 7, (3, 7): 7}))
        cells = cells_after(0, page(0, 2, 1), box(0, 6, 3, TOP, 9, 7))
        self.assertEqual(cells, rows_with(8, 4, {(6, 3): 7, (7, 3): 7}))

    def test_wholly_outside_or_without_a_cell_is_still_a_change(self):
        for x, y, u, v in [(4, 0, 9, 9), (0, 4, 9, 9), (TOP, TOP, TOP, TOP), (TOP, 0, TOP, 1), (0, TOP, 1, TOP),
                           (0, 0, 0, 4), (0, 0, 4, 0), (0, 0, 0, 0)]:
            calls = [page(0, 1, 1), box(0, x, y, u, v, 9)]
            self.assertEqual(ask(*calls, undo(0)), [[1, 1], [1, 2], [1, 1]])
            self.assertEqual(cells_after(0, *calls), rows_with(4, 4, {}))

    def test_everything(self):
        calls = [page(3, 4, 4), box(3, 0, 0, TOP, TOP, 255), box(3, 0, 0, 16, 16, 0)]
        self.assertEqual(ask(*calls), [[1, 16], [2, 32], [2, 48]])
        self.assertEqual(cells_after(3, *calls[:2]), [[255] * 16] * 16)
        self.assertEqual(cells_after(3, *calls), [[0] * 16] * 16)


class Dots(unittest.TestCase):

    def test_column_row_number(self):
        calls = [page(0, 2, 1), dots(0, 7, 0, 255, 2, 3, 1)]
        self.assertEqual(cells_after(0, *calls), rows_with(8, 4, {(7, 0): 255, (2, 3): 1}))
        self.assertEqual(ask(*calls), [[1, 2], [3, 4]])

    def test_of_several_of_one_cell_the_last(self):
        cells = cells_after(0, page(0, 1, 1), dots(0, 1, 2, 5, 3, 3, 8, 1, 2, 6, 3, 3, 0))
        self.assertEqual(cells, rows_with(4, 4, {(1, 2): 6}))
        self.assertEqual(ask(page(0, 1, 1), dots(0, 1, 2, 5, 1, 2, 0)), [[1, 1], [1, 2]])

    def test_none_is_still_a_change(self):
        self.assertEqual(ask(page(0, 1, 1), dots(0), undo(0), undo(0)), [[1, 1], [1, 2], [1, 1], [-4]])

    def test_three_hundred_numbers(self):
        hundred = [(k % 16, k // 16, k) for k in range(100)]
        calls = [page(0, 4, 4), dots(0, *[number for dot in hundred for number in dot])]
        self.assertEqual(cells_after(0, *calls), rows_with(16, 16, {(i, j): n for i, j, n in hundred}))
        self.assertEqual(ask(*calls), [[1, 16], [9, 32]])

    def test_the_last_cell(self):
        self.assertEqual(cells_after(0, page(0, 3, 2), dots(0, 11, 7, 4)), rows_with(12, 8, {(11, 7): 4}))


class Shift(unittest.TestCase):

    def row_after(self, n):
        return cells_after(0, page(0, 2, 1), ONE_ROW_EACH, shift(0, n))[0]

    def test_cells_come_from_further_left(self):
        self.assertEqual(self.row_after(1), [8, 1, 2, 3, 4, 5, 6, 7])
        self.assertEqual(self.row_after(3), [6, 7, 8, 1, 2, 3, 4, 5])
        self.assertEqual(self.row_after(7), [2, 3, 4, 5, 6, 7, 8, 1])

    def test_round_again(self):
        for n in (0, 8, 16, 800):
            self.assertEqual(self.row_after(n), [1, 2, 3, 4, 5, 6, 7, 8])
        self.assertEqual(self.row_after(9), self.row_after(1))
        self.assertEqual(self.row_after(TOP), self.row_after(7))

    def test_a_width_that_is_no_power_of_two(self):
        cells = cells_after(0, page(0, 3, 1), dots(0, 0, 1, 5), shift(0, TOP))
        self.assertEqual(cells, rows_with(12, 4, {(TOP % 12, 1): 5}))

    def test_rows_stay_in_their_row(self):
        cells = cells_after(0, page(0, 1, 2), dots(0, 3, 0, 1, 0, 7, 2), shift(0, 1))
        self.assertEqual(cells, rows_with(4, 8, {(0, 0): 1, (1, 7): 2}))

    def test_answers(self):
        calls = [page(0, 2, 1), box(0, 0, 0, 4, 4, 1), shift(0, 4), shift(0, 0), shift(0, 2)]
        self.assertEqual(ask(*calls), [[1, 2], [2, 4], [2, 6], [2, 8], [4, 8]])


class Copy(unittest.TestCase):

    def test_onto_one_that_is_not_there(self):
        calls = [page(0, 2, 1), box(0, 0, 0, 1, 1, 1), copy(0, 3), undo(3), undo(0)]
        self.assertEqual(ask(*calls), [[1, 2], [2, 4], [2, 6], [-4], [2, 4]])
        self.assertEqual(cells_after(3, *calls), rows_with(8, 4, {(0, 0): 1}))

    def test_onto_one_that_is_there(self):
        calls = [page(0, 1, 2), page(1, 4, 4), box(1, 0, 0, 1, 1, 1), box(1, 0, 0, 1, 1, 2), copy(0, 1), undo(1)]
        self.assertEqual(ask(*calls), [[1, 2], [1, 18], [2, 34], [3, 50], [1, 4], [-4]])
        self.assertEqual(cells_after(1, *calls), rows_with(4, 8, {}))

    def test_changes_apart_from_then_on(self):
        calls = [page(0, 1, 1), copy(0, 1), box(0, 0, 0, 1, 1, 1), box(1, 0, 0, 1, 1, 2), undo(0)]
        self.assertEqual(ask(*calls), [[1, 1], [1, 2], [2, 3], [3, 4], [2, 3]])
        self.assertEqual(cells_after(0, *calls), rows_with(4, 4, {}))
        self.assertEqual(cells_after(1, *calls), rows_with(4, 4, {(0, 0): 2}))


class Paste(unittest.TestCase):

    def test_puts_p_on_q(self):
        calls = [page(0, 1, 1), box(0, 0, 0, 2, 1, 5), page(1, 2, 2), paste(0, 1, 3, 4)]
        self.assertEqual(ask(*calls), [[1, 1], [2, 2], [2, 6], [4, 10]])
        self.assertEqual(cells_after(1, *calls), rows_with(8, 8, {(3, 4): 5, (4, 4): 5}))
        self.assertEqual(cells_after(0, *calls), rows_with(4, 4, {(0, 0): 5, (1, 0): 5}))

    def test_cells_of_0_leave_what_is_there(self):
        calls = [page(0, 1, 1), dots(0, 1, 1, 7), page(1, 1, 1), box(1, 0, 0, 4, 4, 9), paste(0, 1, 0, 0)]
        cells = {(i, j): 9 for i in range(4) for j in range(4)}
        cells[1, 1] = 7
        self.assertEqual(cells_after(1, *calls), rows_with(4, 4, cells))

    def test_over_an_edge(self):
        calls = [page(0, 2, 2), box(0, 0, 0, 8, 8, 3), page(1, 1, 1), paste(0, 1, 3, 2)]
        self.assertEqual(cells_after(1, *calls), rows_with(4, 4, {(3, 2): 3, (3, 3): 3}))

    def test_wholly_outside_is_still_a_change_of_q_alone(self):
        for x, y in [(4, 0), (0, 4), (TOP, 0), (0, TOP), (TOP, TOP)]:
            calls = [page(0, 2, 1), page(1, 1, 1), paste(0, 1, x, y), undo(0), undo(1), undo(1)]
            self.assertEqual(ask(*calls), [[1, 2], [1, 3], [1, 4], [-4], [1, 3], [-4]])


class Undo(unittest.TestCase):

    def test_back_until_there_is_none_left(self):
        changes = [box(0, 0, 0, 1, 1, n) for n in range(1, 6)]
        calls = [page(0, 1, 1)] + changes + [undo(0)] * 4
        self.assertEqual(ask(*calls), [
            [1, 1], [2, 2], [3, 3], [4, 4], [4, 4], [4, 4], [3, 3], [2, 2], [1, 1], [-4]])
        for back in range(4):
            cells = cells_after(0, page(0, 1, 1), *changes, *[undo(0)] * back)
            self.assertEqual(cells, rows_with(4, 4, {(0, 0): 5 - back}))

    def test_a_change_that_changes_no_cell_is_a_time_before_too(self):
        calls = [page(0, 1, 1), box(0, 0, 0, 1, 1, 1)] + [shift(0, 0)] * 3 + [undo(0)] * 4
        self.assertEqual(ask(*calls), [[1, 1], [2, 2], [2, 3], [2, 4], [1, 4], [1, 3], [1, 2], [1, 1], [-4]])

    def test_what_is_undone_is_not_before(self):
        calls = [page(0, 1, 1), box(0, 0, 0, 1, 1, 1), undo(0), box(0, 0, 0, 1, 1, 2), undo(0), undo(0)]
        self.assertEqual(ask(*calls), [[1, 1], [2, 2], [1, 1], [2, 2], [1, 1], [-4]])


if __name__ == "__main__":
    unittest.main()
