"""What the tests share: calls as lists, answers one by one, and a model that keeps each picture whole."""

from tilestore.album import Album
from tilestore.pictures import answer_call, answers

TOP = 4294967295


def page(p, w, h):
    return [0, p, w, h]


def box(p, x, y, u, v, n):
    return [1, p, x, y, u, v, n]


def dots(p, *numbers):
    return [2, p, len(numbers), *numbers]


def shift(p, n):
    return [3, p, n]


def copy(p, q):
    return [4, p, q]


def paste(p, q, x, y):
    return [5, p, q, x, y]


def undo(p):
    return [6, p]


def close(p):
    return [7, p]


def cells(p):
    return [8, p]


def cell(p, x, y):
    return [9, p, x, y]


def tile(p, i):
    return [10, p, i]


def same(p, q):
    return [11, p, q]


def store():
    return [12]


def slot(i):
    return [13, i]


def flat(calls):
    return [number for call in calls for number in call]


def split_answers(told):
    """The answers one by one, without how many numbers each has."""
    split = []
    at = 0
    while at < len(told):
        split.append(told[at + 1:at + 1 + told[at]])
        assert len(split[-1]) == told[at] > 0
        at += 1 + told[at]
    return split


def ask(*calls):
    return split_answers(answers(flat(calls)))


def ask_behind(calls, asked):
    """What each of the asked calls answers behind the calls, in lists of no more than 40 calls."""
    room = 40 - len(calls)
    told = []
    for first in range(0, len(asked), room):
        told += ask(*calls, *asked[first:first + room])[len(calls):]
    return told


def cells_after(p, *calls):
    """Picture p's cells, a list for each row."""
    columns, rows, *numbers = ask(*calls, cells(p))[-1]
    assert len(numbers) == columns * rows
    return [numbers[j * columns:(j + 1) * columns] for j in range(rows)]


def places_after(p, *calls):
    columns, rows = ask(*calls, cells(p))[-1][:2]
    return [told[0] for told in ask_behind(calls, [tile(p, i) for i in range(columns * rows // 16)])]


def counts_after(*calls):
    many, used, *counts = ask(*calls, store())[-1]
    assert (many, used) == (len(counts), sum(count > 0 for count in counts))
    return counts


def look_after(*calls):
    """All that can be asked of the pictures and the store, also one, two and three times back."""
    looks = []
    for back in range(4):
        behind = [*calls, *[undo(p) for p in range(4) for time in range(back)]]
        counts = counts_after(*behind)
        looks.append((counts, ask_behind(behind, [
            *[cells(p) for p in range(4)], *[tile(p, i) for p in range(4) for i in range(16)],
            *[same(p, q) for p in range(4) for q in range(4)], *[slot(i) for i in range(len(counts))]])))
    return looks


def album_after(*calls):
    album = Album()
    for call in calls:
        if call[0] == 2:
            answer_call(album, 2, call[1:2], call[3:])
        else:
            answer_call(album, call[0], call[1:], [])
    return album


def snapshot(album):
    """All that an album holds, as values to compare; a free place's tile is nobody's."""
    kept = album.store
    tiles = [had if count else None for had, count in zip(kept.tiles, kept.counts)]
    pictures = {p: (q.wide, list(q.places), [list(b) for b in q.before]) for p, q in album.pictures.items()}
    return tiles, list(kept.counts), pictures


class Shelf:
    """The store told word by word: a dict of the places in use, and how many places there are."""

    def __init__(self):
        self.used = {}
        self.many = 0

    def keep(self, kept):
        for place, has in self.used.items():
            if has[0] == kept:
                has[1] += 1
                return place
        free = [place for place in range(self.many) if place not in self.used]
        place = free[0] if free else self.many
        self.many = max(self.many, place + 1)
        self.used[place] = [kept, 1]
        return place

    def let_go(self, place):
        self.used[place][1] -= 1
        if self.used[place][1] == 0:
            del self.used[place]

    def ask_store(self):
        return [self.many, len(self.used), *[self.used.get(place, [None, 0])[1] for place in range(self.many)]]

    def ask_slot(self, i):
        if i >= self.many:
            return [-2]
        return list(self.used[i][0]) if i in self.used else [-6]


class Whole:
    """Each picture and each time before kept whole, as a dict of cells, and beside it the places on a shelf."""

    def __init__(self):
        self.shelf = Shelf()
        self.size = {}
        # Of each picture pairs of cells and places: now, then the times before, the last time first.
        self.times = {}

    def rows(self, p):
        w, h = self.size[p]
        return [[self.times[p][0][0][i, j] for i in range(4 * w)] for j in range(4 * h)]

    def tiles(self, p, whole):
        w, h = self.size[p]
        corners = [(4 * i, 4 * j) for j in range(h) for i in range(w)]
        return [tuple(whole[left + k % 4, top + k // 4] for k in range(16)) for left, top in corners]

    def pointed_to(self):
        """Each tile that a picture has or had, as often as it does: read off the cells alone."""
        return [one for p in self.times for whole, places in self.times[p] for one in self.tiles(p, whole)]

    def stands(self):
        tiles = self.pointed_to()
        return [len(set(tiles)), len(tiles)]

    def drop(self, p):
        for whole, places in self.times.pop(p, []):
            for place in places:
                self.shelf.let_go(place)

    def change(self, p, whole):
        places = [self.shelf.keep(one) for one in self.tiles(p, whole)]
        self.times[p].insert(0, (whole, places))
        for old, oldest in self.times[p][4:]:
            for place in oldest:
                self.shelf.let_go(place)
        self.times[p] = self.times[p][:4]
        return self.stands()

    def ask(self, call):
        number, given = call[0], call[1:]
        if number == 0:
            return self.ask_page(*given)
        if number == 12:
            return self.shelf.ask_store()
        if number == 13:
            return self.shelf.ask_slot(*given)
        if given[0] not in self.times or number in (5, 11) and given[1] not in self.times:
            return [-1]
        if number == 2:
            return self.ask_dots(given[0], given[2:])
        return [None, self.ask_box, None, self.ask_shift, self.ask_copy, self.ask_paste, self.ask_undo, self.ask_close,
                self.ask_cells, self.ask_cell, self.ask_tile, self.ask_same][number](*given)

    def ask_page(self, p, w, h):
        if p > 3:
            return [-1]
        if w not in (1, 2, 3, 4) or h not in (1, 2, 3, 4):
            return [-2]
        self.drop(p)
        self.size[p], self.times[p] = (w, h), []
        return self.change(p, {(i, j): 0 for i in range(4 * w) for j in range(4 * h)})

    def ask_box(self, p, x, y, u, v, n):
        old = self.times[p][0][0]
        if n > 255:
            return [-2]
        return self.change(p, {(i, j): n if x <= i < x + u and y <= j < y + v else old[i, j] for i, j in old})

    def ask_dots(self, p, numbers):
        whole = dict(self.times[p][0][0])
        if len(numbers) % 3:
            return [-2]
        for i, j, n in zip(numbers[0::3], numbers[1::3], numbers[2::3]):
            if (i, j) not in whole or n > 255:
                return [-2]
            whole[i, j] = n
        return self.change(p, whole)

    def ask_shift(self, p, n):
        old, wide = self.times[p][0][0], self.size[p][0] * 4
        return self.change(p, {((i + n) % wide, j): old[i, j] for i, j in old})

    def ask_copy(self, p, q):
        if q > 3 or q == p:
            return [-2]
        whole, places = self.times[p][0]
        for place in places:
            self.shelf.used[place][1] += 1
        self.drop(q)
        self.size[q], self.times[q] = self.size[p], [(dict(whole), list(places))]
        return self.stands()

    def ask_paste(self, p, q, x, y):
        if p == q:
            return [-2]
        whole = dict(self.times[q][0][0])
        for (i, j), n in self.times[p][0][0].items():
            if (x + i, y + j) in whole and n != 0:
                whole[x + i, y + j] = n
        return self.change(q, whole)

    def ask_undo(self, p):
        if len(self.times[p]) == 1:
            return [-4]
        for place in self.times[p].pop(0)[1]:
            self.shelf.let_go(place)
        return self.stands()

    def ask_close(self, p):
        self.drop(p)
        return self.stands()

    def ask_cells(self, p):
        w, h = self.size[p]
        return [4 * w, 4 * h, *[n for row in self.rows(p) for n in row]]

    def ask_cell(self, p, x, y):
        return [self.times[p][0][0].get((x, y), -2)]

    def ask_tile(self, p, i):
        tiles = self.tiles(p, self.times[p][0][0])
        if i >= len(tiles):
            return [-2]
        return [self.times[p][0][1][i], self.pointed_to().count(tiles[i])]

    def ask_same(self, p, q):
        ones, others = [self.tiles(r, self.times[r][0][0]) for r in (p, q)]
        return [sum(one == other for one, other in zip(ones, others)), len({one for one in ones if one in others})]
