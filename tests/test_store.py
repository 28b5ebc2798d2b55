"""The store: alike tiles once, places used again, and what is counted."""

import random
import unittest

from helper import (TOP, Whole, ask, ask_behind, box, cell, cells, cells_after, close, copy, counts_after, dots, page, paste,
                    places_after, same, shift, slot, store, tile, undo)
from tilestore.store import Store


def full(n):
    return (n,) * 16


class Places(unittest.TestCase):

    def test_alike_tiles_once(self):
        store = Store()
        self.assertEqual(store.keep_each([full(1), full(2), full(1), full(1)]), [0, 1, 0, 0])
        self.assertEqual(store.counts, [3, 1])
        self.assertEqual(store.how_it_stands(), [2, 4])

    def test_tiles_that_differ_in_one_cell_are_apart(self):
        store = Store()
        tiles = [full(0)] + [tuple(1 if k == at else 0 for k in range(16)) for at in range(16)]
        self.assertEqual(store.keep_each(tiles), list(range(17)))

    def test_the_first_free_place_first(self):
        store = Store()
        store.keep_each([full(n) for n in range(5)])
        store.let_go_each([3, 1])
        self.assertEqual(store.how_it_stands(), [3, 3])
        self.assertEqual(store.keep_each([full(9), full(8), full(7)]), [1, 3, 5])
        self.assertEqual(store.tiles, [full(0), full(9), full(2), full(8), full(4), full(7)])

    def test_a_place_in_use_goes_ahead_of_a_free_one(self):
        store = Store()
        store.keep_each([full(1), full(2)])
        store.let_go_each([0])
        self.assertEqual(store.keep(full(2)), 1)
        self.assertEqual(store.counts, [0, 2])

    def test_what_a_free_place_had_is_not_found_there(self):
        store = Store()
        store.keep_each([full(1), full(2), full(3)])
        store.let_go_each([0, 1])
        self.assertEqual(store.keep(full(2)), 0)
        self.assertEqual(store.counts, [1, 0, 1])

    def test_free_at_0_only(self):
        store = Store()
        store.keep_each([full(1), full(1)])
        store.let_go_each([0])
        self.assertEqual(store.how_it_stands(), [1, 1])
        store.let_go_each([0])
        self.assertEqual(store.how_it_stands(), [0, 0])
        self.assertEqual(store.counts, [0])


class PlacesOfPictures(unittest.TestCase):

    def test_tiles_are_kept_row_by_row(self):
        calls = [page(0, 2, 2), dots(0, 0, 0, 1, 4, 0, 2, 0, 4, 3, 4, 4, 4)]
        self.assertEqual(places_after(0, *calls), [1, 2, 3, 4])
        self.assertEqual(places_after(0, *calls, undo(0)), [0, 0, 0, 0])
        self.assertEqual(counts_after(*calls), [4, 1, 1, 1, 1])

    def test_new_tiles_are_kept_before_the_oldest_are_let_go(self):
        changes = [box(0, 0, 0, 4, 4, n) for n in range(1, 6)]
        places = [places_after(0, page(0, 1, 1), *changes[:many]) for many in range(1, 6)]
        self.assertEqual(places, [[1], [2], [3], [4], [0]])
        self.assertEqual(counts_after(page(0, 1, 1), *changes), [1, 0, 1, 1, 1])

    def test_times_before_lie_the_last_first(self):
        calls = [page(0, 1, 1)] + [box(0, 0, 0, 4, 4, n) for n in range(1, 5)]
        places = [places_after(0, *calls, *[undo(0)] * back) for back in range(4)]
        self.assertEqual(places, [[4], [3], [2], [1]])

    def test_page_lets_go_before_it_keeps(self):
        # The fifth change puts its tile where the blank one was and frees place 1: were the page kept first, it came there.
        calls = [page(0, 1, 1), *[box(0, 0, 0, 4, 4, n) for n in range(1, 6)], page(0, 1, 1)]
        self.assertEqual((places_after(0, *calls), counts_after(*calls)), ([0], [1, 0, 0, 0, 0]))

    def test_page_lets_go_of_all_times_before(self):
        calls = [page(0, 1, 1), *[box(0, 0, 0, 4, 4, n) for n in range(1, 5)], page(1, 1, 1), page(0, 2, 1)]
        self.assertEqual((places_after(0, *calls), counts_after(*calls)), ([0, 0], [3, 0, 0, 0, 0]))

    def test_copy_has_the_same_places(self):
        calls = [page(0, 2, 1), box(0, 0, 0, 4, 4, 1), copy(0, 1)]
        self.assertEqual((places_after(1, *calls), counts_after(*calls)), ([1, 0], [4, 2]))

    def test_copy_lets_go_of_the_picture_that_was_there(self):
        calls = [page(0, 1, 1), page(1, 1, 1), box(1, 0, 0, 4, 4, 1), box(1, 0, 0, 4, 4, 2), copy(0, 1)]
        self.assertEqual((places_after(1, *calls), counts_after(*calls)), ([0], [2, 0, 0]))

    def test_undo_has_the_places_of_the_last_time(self):
        calls = [page(0, 2, 1), box(0, 0, 0, 4, 4, 1), shift(0, 4), undo(0), undo(0)]
        self.assertEqual((places_after(0, *calls), counts_after(*calls)), ([0, 0], [2, 0]))


class Standing(unittest.TestCase):

    def test_alike_within_one_picture(self):
        self.assertEqual(ask(page(0, 4, 4), box(0, 0, 0, 16, 16, 8)), [[1, 16], [2, 32]])
        self.assertEqual(ask(page(0, 4, 1), dots(0, 0, 0, 1, 4, 0, 1, 8, 0, 1, 12, 1, 1)), [[1, 4], [3, 8]])

    def test_alike_between_pictures(self):
        calls = [page(0, 1, 1), page(1, 1, 1), box(0, 0, 0, 1, 1, 1), dots(1, 0, 0, 1)]
        self.assertEqual(ask(*calls), [[1, 1], [1, 2], [2, 3], [2, 4]])

    def test_alike_between_now_and_before(self):
        calls = [page(0, 1, 1), box(0, 0, 0, 1, 1, 1), box(0, 0, 0, 1, 1, 0)]
        self.assertEqual(ask(*calls), [[1, 1], [2, 2], [2, 3]])


def some_number(source):
    return source.choice([0, 0, 1, 2, 3, 4, 5, 7, 8, 11, 15, 16, 255, 256, TOP - 1, TOP])


def some_picture(source):
    return source.choice([0, 0, 0, 1, 1, 2, 3, 4] if source.random() < 0.3 else [0, 1])


def some_dots(source, p):
    numbers = []
    for dot in range(source.choice([0, 1, 2, 5, 40])):
        numbers += [source.randrange(4), source.randrange(4), source.randrange(3)]
    if source.random() < 0.1:
        numbers.append(some_number(source))
    if source.random() < 0.2 and numbers:
        numbers[source.randrange(len(numbers))] = some_number(source)
    return dots(p, *numbers)


def some_change(source):
    p, q = some_picture(source), some_picture(source)
    x, y, u, v = [some_number(source) for number in range(4)]
    kind = source.randrange(17)
    if kind < 2:
        return page(p, source.choice([1, 1, 2, 3, 4, x]), source.choice([1, 1, 2, 3, 4, y]))
    if kind < 6:
        return box(p, x, y, u, v, source.choice([0, 1, 1, 2, 255, 256]))
    if kind < 8:
        return some_dots(source, p)
    if kind < 10:
        return shift(p, x)
    if kind < 11:
        return copy(p, q)
    if kind < 13:
        return paste(p, q, x, y)
    if kind < 16:
        return undo(p)
    return close(p)


def some_telling(source):
    p, q = some_picture(source), some_picture(source)
    x, y = some_number(source), some_number(source)
    return source.choice([
        cells(p), cell(p, x, y), cell(p, source.randrange(8), source.randrange(8)), tile(p, x), tile(p, source.randrange(3)),
        same(p, q), store(), slot(x), slot(source.randrange(6))])


def some_call(source):
    return some_change(source) if source.random() < 0.6 else some_telling(source)


class AgainstWhole(unittest.TestCase):

    def test_all_fourteen_calls_mixed(self):
        seen = {}
        for seed in range(800):
            source = random.Random(seed)
            calls = [page(0, 2, 1), page(1, 1, 2)] + [some_call(source) for call in range(38)]
            whole = Whole()
            expected = [whole.ask(call) for call in calls]
            with self.subTest(seed=seed):
                self.assertEqual(ask(*calls), expected)
            for call, told in zip(calls, expected):
                seen[call[0], min(told[0], 0)] = True
        # What the lists are for: each call taken and each of its refusals told somewhere in them.
        refused = [(number, -1) for number in range(12)] + [(number, -2) for number in (0, 1, 2, 4, 5, 9, 10, 13)]
        refused += [(6, -4), (13, -6)]
        self.assertEqual(sorted(seen), sorted(refused + [(number, 0) for number in range(14)]))

    def test_cells_as_if_each_picture_were_kept_whole(self):
        for seed in range(200):
            source = random.Random(seed)
            calls = [page(0, 2, 1), page(1, 1, 2)] + [some_change(source) for call in range(30)]
            whole = Whole()
            for call in calls:
                whole.ask(call)
            with self.subTest(seed=seed):
                for p in whole.times:
                    self.assertEqual(cells_after(p, *calls), whole.rows(p))

    def test_never_more_tiles_than_different_ones_and_each_counts_those_that_point_to_it(self):
        for seed in range(200):
            source = random.Random(seed)
            calls = [page(0, 2, 1), page(1, 1, 2)] + [some_change(source) for call in range(20)]
            whole = Whole()
            for call in calls:
                whole.ask(call)
            counts = counts_after(*calls)
            slots = ask_behind(calls, [slot(i) for i in range(len(counts))])
            with self.subTest(seed=seed):
                self.assertEqual([told == [-6] for told in slots], [count == 0 for count in counts])
                pointed_to = whole.pointed_to()
                kept = {tuple(told): count for told, count in zip(slots, counts) if count}
                self.assertEqual(kept, {one: pointed_to.count(one) for one in pointed_to})
                self.assertEqual(len(kept), len([count for count in counts if count]))


if __name__ == "__main__":
    unittest.main()
