"""The store: of alike tiles one alone is kept, with how often it is pointed to."""


class Store:

    def __init__(self):
        # Place i has tiles[i] and counts[i]. A free place is one whose count is 0; what tile it had last
        # may still lie there, so a tile is only ever asked for together with its count.
        self.tiles = []
        self.counts = []

    def is_free(self, place):
        return self.counts[place] == 0

    def first_free(self):
        for place in range(len(self.counts)):
            if self.is_free(place):
                return place
        return len(self.counts)

    def place_for(self, tile):
        for place in range(len(self.tiles)):
            if not self.is_free(place) and self.tiles[place] == tile:
                return place
        return self.first_free()

    def keep(self, tile):
        place = self.place_for(tile)
        if place == len(self.tiles):
            self.tiles.append(tile)
            self.counts.append(0)
        self.tiles[place] = tile
        self.counts[place] += 1
        return place

    def keep_each(self, tiles):
        places = []
        for tile in tiles:
            places.append(self.keep(tile))
        return places

    def point_again(self, places):
        for place in places:
            self.counts[place] += 1

    def let_go_each(self, places):
        for place in places:
            self.counts[place] -= 1

    def in_use(self):
        return len([count for count in self.counts if count > 0])

    def how_it_stands(self):
        return [self.in_use(), sum(self.counts)]
