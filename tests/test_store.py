"""The store: alike tiles once, places used again, and what is counted."""

import random
import unittest

from helper import TOP, Whole, album_after, ask, box, cells_after, copy, dots, page, paste, shift, undo
from tilestore.store import Store


def full(n):
    return (n,) * 16


class Places(unittest.TestCase):

    def test_alike_tiles_once(self):
        store = Store()
        self.assertEqual(store.keep_each([full(1), full(2), full(1), full(1)]), [0, 1, 0, 0])
        self.assertEqual(store.counts, [3, 1])
        self.assertEqual(store.how_it_stands(), [2, 4])

    def test_tiles_that_differ_in_one_cell_are_apart(self):
        store = Store()
        tiles = [full(0)] + [tuple(1 if k == at else 0 for k in range(16)) for at in range(16)]
        self.assertEqual(store.keep_each(tiles), list(range(17)))

    def test_the_first_free_place_first(self):
        store = Store()
        store.keep_each([full(n) for n in range(5)])
        store.let_go_each([3, 1])
        self.assertEqual(store.how_it_stands(), [3, 3])
        self.assertEqual(store.keep_each([full(9), full(8), full(7)]), [1, 3, 5])
        self.assertEqual(store.tiles, [full(0), full(9), full(2), full(8), full(4), full(7)])

    def test_a_place_in_use_goes_ahead_of_a_free_one(self):
        store = Store()
        store.keep_each([full(1), full(2)])
        store.let_go_each([0])
        self.assertEqual(store.keep(full(2)), 1)
        self.assertEqual(store.counts, [0, 2])

    def test_what_a_free_place_had_is_not_found_there(self):
        store = Store()
        store.keep_each([full(1), full(2), full(3)])
        store.let_go_each([0, 1])
        self.assertEqual(store.keep(full(2)), 0)
        self.assertEqual(store.counts, [1, 0, 1])

    def test_free_at_0_only(self):
        store = Store()
        store.keep_each([full(1), full(1)])
        store.let_go_each([0])
        self.assertEqual(store.how_it_stands(), [1, 1])
        store.let_go_each([0])
        self.assertEqual(store.how_it_stands(), [0, 0])
        self.assertEqual(store.counts, [0])


class PlacesOfPictures(unittest.TestCase):

    def test_tiles_are_kept_row_by_row(self):
        album = album_after(page(0, 2, 2), dots(0, 0, 0, 1, 4, 0, 2, 0, 4, 3, 4, 4, 4))
        self.assertEqual(album.pictures[0].places, [1, 2, 3, 4])
        self.assertEqual(album.pictures[0].before, [[0, 0, 0, 0]])
        self.assertEqual(album.store.counts, [4, 1, 1, 1, 1])

    def test_new_tiles_are_kept_before_the_oldest_are_let_go(self):
        changes = [box(0, 0, 0, 4, 4, n) for n in range(1, 6)]
        places = [album_after(page(0, 1, 1), *changes[:many]).pictures[0].places for many in range(1, 6)]
        self.assertEqual(places, [[1], [2], [3], [4], [0]])
        self.assertEqual(album_after(page(0, 1, 1), *changes).store.counts, [1, 0, 1, 1, 1])

    def test_times_before_lie_the_last_first(self):
        changes = [box(0, 0, 0, 4, 4, n) for n in range(1, 5)]
        self.assertEqual(album_after(page(0, 1, 1), *changes).pictures[0].before, [[3], [2], [1]])

    def test_page_lets_go_before_it_keeps(self):
        # The fifth change puts its tile where the blank one was and frees place 1: were the page kept first, it came there.
        changes = [box(0, 0, 0, 4, 4, n) for n in range(1, 6)]
        album = album_after(page(0, 1, 1), *changes, page(0, 1, 1))
        self.assertEqual((album.pictures[0].places, album.store.counts), ([0], [1, 0, 0, 0, 0]))

    def test_page_lets_go_of_all_times_before(self):
        changes = [box(0, 0, 0, 4, 4, n) for n in range(1, 5)]
        album = album_after(page(0, 1, 1), *changes, page(1, 1, 1), page(0, 2, 1))
        self.assertEqual((album.pictures[0].places, album.store.counts), ([0, 0], [3, 0, 0, 0, 0]))

    def test_copy_has_the_same_places(self):
        album = album_after(page(0, 2, 1), box(0, 0, 0, 4, 4, 1), copy(0, 1))
        self.assertEqual(album.pictures[1].places, [1, 0])
        self.assertEqual(album.store.counts, [4, 2])

    def test_undo_has_the_places_of_the_last_time(self):
        album = album_after(page(0, 2, 1), box(0, 0, 0, 4, 4, 1), shift(0, 4), undo(0), undo(0))
        self.assertEqual((album.pictures[0].places, album.store.counts), ([0, 0], [2, 0]))


class Standing(unittest.TestCase):

    def test_alike_within_one_picture(self):
        self.assertEqual(ask(page(0, 4, 4), box(0, 0, 0, 16, 16, 8)), [[1, 16], [2, 32]])
        self.assertEqual(ask(page(0, 4, 1), dots(0, 0, 0, 1, 4, 0, 1, 8, 0, 1, 12, 1, 1)), [[1, 4], [3, 8]])

    def test_alike_between_pictures(self):
        calls = [page(0, 1, 1), page(1, 1, 1), box(0, 0, 0, 1, 1, 1), dots(1, 0, 0, 1)]
        self.assertEqual(ask(*calls), [[1, 1], [1, 2], [2, 3], [2, 4]])

    def test_alike_between_now_and_before(self):
        calls = [page(0, 1, 1), box(0, 0, 0, 1, 1, 1), box(0, 0, 0, 1, 1, 0)]
        self.assertEqual(ask(*calls), [[1, 1], [2, 2], [2, 3]])


def some_number(source):
    return source.choice([0, 0, 1, 2, 3, 4, 5, 7, 8, 11, 15, 16, 255, 256, TOP - 1, TOP])


def some_picture(source):
    return source.choice([0, 0, 0, 1, 1, 2, 3, 4] if source.random() < 0.3 else [0, 1])


def some_dots(source, p):
    numbers = []
    for dot in range(source.choice([0, 1, 2, 5, 40])):
        numbers += [source.randrange(4), source.randrange(4), source.randrange(3)]
    if source.random() < 0.1:
        numbers.append(some_number(source))
    if source.random() < 0.2 and numbers:
        numbers[source.randrange(len(numbers))] = some_number(source)
    return dots(p, *numbers)


def some_call(source):
    p, q = some_picture(source), some_picture(source)
    x, y, u, v = [some_number(source) for number in range(4)]
    kind = source.randrange(16)
    if kind < 2:
        return page(p, source.choice([1, 1, 2, 3, 4, x]), source.choice([1, 1, 2, 3, 4, y]))
    if kind < 6:
        return box(p, x, y, u, v, source.choice([0, 1, 1, 2, 255, 256]))
    if kind < 8:
        return some_dots(source, p)
    if kind < 10:
        return shift(p, x)
    if kind < 11:
        return copy(p, q)
    if kind < 13:
        return paste(p, q, x, y)
    return undo(p)


class AgainstWhole(unittest.TestCase):

    def test_as_if_each_picture_were_kept_whole(self):
        seen = {}
        for seed in range(400):
            source = random.Random(seed)
            calls = [page(0, 2, 1), page(1, 1, 2)] + [some_call(source) for call in range(38)]
            whole = Whole()
            expected = [whole.ask(call) for call in calls]
            with self.subTest(seed=seed):
                self.assertEqual(ask(*calls), expected)
                for p in whole.now:
                    self.assertEqual(cells_after(p, *calls), whole.rows(p))
            for call, told in zip(calls, expected):
                seen[call[0], min(told[0], 0)] = True
        # What the lists are for: each call taken and each of its refusals told somewhere in them.
        for case in [(0, -1), (0, -2), (1, -1), (1, -2), (2, -1), (2, -2), (3, -1), (4, -1), (4, -2), (5, -1), (5, -2),
                     (6, -1), (6, -4)] + [(number, 0) for number in range(7)]:
            self.assertIn(case, seen)


if __name__ == "__main__":
    unittest.main()
