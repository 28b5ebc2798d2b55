"""What the tests share: calls as lists, answers one by one, and a model that keeps each picture whole."""

from tilestore.album import Album
from tilestore.pictures import answer_call, answers

TOP = 4294967295


def page(p, w, h):
    return [0, p, w, h]


def box(p, x, y, u, v, n):
    return [1, p, x, y, u, v, n]


def dots(p, *numbers):
    return [2, p, len(numbers), *numbers]


def shift(p, n):
    return [3, p, n]


def copy(p, q):
    return [4, p, q]


def paste(p, q, x, y):
    return [5, p, q, x, y]


def undo(p):
    return [6, p]


def flat(calls):
    return [number for call in calls for number in call]


def split_answers(told):
    """The answers one by one, without how many numbers each has."""
    split = []
    at = 0
    while at < len(told):
        split.append(told[at + 1:at + 1 + told[at]])
        assert len(split[-1]) == told[at] > 0
        at += 1 + told[at]
    return split


def ask(*calls):
    return split_answers(answers(flat(calls)))


def album_after(*calls):
    """The album behind the answers: no call of this stage tells of cells or places."""
    album = Album()
    for call in calls:
        if call[0] == 2:
            answer_call(album, 2, call[1:2], call[3:])
        else:
            answer_call(album, call[0], call[1:], [])
    return album


def cells_after(p, *calls):
    return album_after(*calls).rows_of_picture(p)


def snapshot(album):
    """All that an album holds, as values to compare; a free place's tile is nobody's."""
    store = album.store
    tiles = [tile if count else None for tile, count in zip(store.tiles, store.counts)]
    pictures = {p: (q.wide, list(q.places), [list(b) for b in q.before]) for p, q in album.pictures.items()}
    return tiles, list(store.counts), pictures


class Whole:
    """Each picture and each time before kept whole, as a dict of cells; tiles are only counted."""

    def __init__(self):
        self.now = {}
        self.size = {}
        self.before = {}

    def stands(self):
        tiles = []
        for p, cells in self.now.items():
            w, h = self.size[p]
            for whole in [cells] + self.before[p]:
                for number in range(w * h):
                    left, top = number % w * 4, number // w * 4
                    tiles.append(tuple(whole[left + k % 4, top + k // 4] for k in range(16)))
        return [len(set(tiles)), len(tiles)]

    def new(self, p, size, cells):
        self.now[p], self.size[p], self.before[p] = cells, size, []
        return self.stands()

    def change(self, p, cells):
        self.before[p] = [self.now[p], *self.before[p]][:3]
        self.now[p] = cells
        return self.stands()

    def ask(self, call):
        number, p = call[:2]
        if number == 0:
            return self.ask_page(*call[1:])
        if p not in self.now or number == 5 and call[2] not in self.now:
            return [-1]
        old = self.now[p]
        if number == 1:
            x, y, u, v, n = call[2:]
            if n > 255:
                return [-2]
            return self.change(p, {(i, j): n if x <= i < x + u and y <= j < y + v else old[i, j] for i, j in old})
        if number == 2:
            return self.ask_dots(p, call[3:])
        if number == 3:
            wide = self.size[p][0] * 4
            return self.change(p, {((i + call[2]) % wide, j): old[i, j] for i, j in old})
        if number == 4:
            if call[2] > 3 or call[2] == p:
                return [-2]
            return self.new(call[2], self.size[p], dict(old))
        if number == 5:
            return self.ask_paste(*call[1:])
        if not self.before[p]:
            return [-4]
        self.now[p] = self.before[p].pop(0)
        return self.stands()

    def ask_page(self, p, w, h):
        if p > 3:
            return [-1]
        if w not in (1, 2, 3, 4) or h not in (1, 2, 3, 4):
            return [-2]
        return self.new(p, (w, h), {(i, j): 0 for i in range(4 * w) for j in range(4 * h)})

    def ask_dots(self, p, numbers):
        cells = dict(self.now[p])
        if len(numbers) % 3:
            return [-2]
        for i, j, n in zip(numbers[0::3], numbers[1::3], numbers[2::3]):
            if (i, j) not in cells or n > 255:
                return [-2]
            cells[i, j] = n
        return self.change(p, cells)

    def ask_paste(self, p, q, x, y):
        if p == q:
            return [-2]
        cells = dict(self.now[q])
        for i, j in self.now[p]:
            if (x + i, y + j) in cells and self.now[p][i, j] != 0:
                cells[x + i, y + j] = self.now[p][i, j]
        return self.change(q, cells)

    def rows(self, p):
        w, h = self.size[p]
        return [[self.now[p][i, j] for i in range(4 * w)] for j in range(4 * h)]
