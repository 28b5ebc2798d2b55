"""The pictures over one store, each with how it was before."""

from tilestore.cells import BLANK_TILE, rows_of_tiles, tiles_of_rows
from tilestore.store import Store

MOST_BEFORE = 3


class Picture:

    def __init__(self, wide, places):
        self.wide = wide
        self.places = places
        # Rows of places, the last time first.
        self.before = []


class Album:

    def __init__(self):
        self.store = Store()
        self.pictures = {}

    def has_picture(self, p):
        return p in self.pictures

    def places_of_picture(self, p):
        return list(self.pictures[p].places)

    def rows_of_picture(self, p):
        picture = self.pictures[p]
        tiles = [self.store.tiles[place] for place in picture.places]
        return rows_of_tiles(tiles, picture.wide)

    def drop_picture(self, p):
        if p in self.pictures:
            picture = self.pictures.pop(p)
            self.store.let_go_each(picture.places)
            for places in picture.before:
                self.store.let_go_each(places)

    def lay_page(self, p, wide, high):
        self.drop_picture(p)
        places = self.store.keep_each([BLANK_TILE] * (wide * high))
        self.pictures[p] = Picture(wide, places)

    def change_picture(self, p, rows):
        picture = self.pictures[p]
        # The new tiles are kept while the oldest are still held: which places become theirs depends on it.
        places = self.store.keep_each(tiles_of_rows(rows))
        picture.before.insert(0, picture.places)
        picture.places = places
        if len(picture.before) > MOST_BEFORE:
            self.store.let_go_each(picture.before.pop())

    def copy_picture(self, p, q):
        picture = self.pictures[p]
        self.store.point_again(picture.places)
        self.drop_picture(q)
        self.pictures[q] = Picture(picture.wide, list(picture.places))

    def has_been_before(self, p):
        return len(self.pictures[p].before) > 0

    def step_back(self, p):
        picture = self.pictures[p]
        self.store.let_go_each(picture.places)
        picture.places = picture.before.pop(0)
