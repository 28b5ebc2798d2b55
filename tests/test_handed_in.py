"""What is handed in stays as it was, and nothing is kept from one time to the next."""

import unittest

from helper import (box, cell, cells, close, copy, dots, flat, page, paste, same, shift, slot, split_answers, store, tile,
                    undo)
from tilestore.pictures import answers

CALLS = flat([
    page(0, 2, 2), box(0, 1, 1, 5, 5, 3), dots(0, 0, 0, 1, 7, 7, 2), shift(0, 3), copy(0, 1), paste(0, 1, 2, 2),
    undo(1), undo(1), dots(0, 0), page(0, 5, 1), shift(0, 1), page(1, 1, 1), cells(0), cell(0, 3, 3), cell(0, 8, 0),
    tile(0, 3), tile(1, 1), same(0, 1), store(), slot(0), slot(99), close(0), close(0), slot(2), store(), cells(1)])


def refuse_change(self, *given):
    raise AssertionError("what is handed in was changed")


class Unchanged(list):
    """A list that fails as soon as it is changed, be it for a while only."""


for name in ("append", "clear", "extend", "insert", "pop", "remove", "reverse", "sort",
             "__setitem__", "__delitem__", "__iadd__", "__imul__"):
    setattr(Unchanged, name, refuse_change)


class HandedIn(unittest.TestCase):

    def test_stays_as_it_was(self):
        calls = list(CALLS)
        answers(calls)
        self.assertEqual(calls, CALLS)

    def test_is_not_changed_for_a_while_either(self):
        self.assertEqual(answers(Unchanged(CALLS)), answers(list(CALLS)))

    def test_a_second_run_answers_the_same(self):
        first = answers(list(CALLS))
        self.assertEqual(answers(list(CALLS)), first)

    def test_nothing_is_kept(self):
        answers(list(CALLS))
        self.assertEqual(answers([6, 0]), [1, -1])
        self.assertEqual(answers([0, 0, 1, 1]), [2, 1, 1])
        self.assertEqual(answers([12]), [2, 0, 0])
        self.assertEqual(answers([13, 0]), [1, -2])
        self.assertEqual(answers([8, 1]), [1, -1])

    def test_each_call_is_among_them(self):
        told = split_answers(answers(list(CALLS)))
        self.assertEqual([len(told), told[-3], told[-1]], [26, [-6], [4, 4] + [0] * 16])

    def test_what_is_given_back_is_the_callers(self):
        first = answers(list(CALLS))
        kept = list(first)
        first.clear()
        self.assertEqual(answers(list(CALLS)), kept)


if __name__ == "__main__":
    unittest.main()
