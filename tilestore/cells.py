"""Cells as if each picture were kept whole: rows of cells, what is put on them, and their tiles.

Rows are a list with one list of cells for each row. A tile is a tuple of its 16 cells, row by row.
"""

SIDE = 4
LARGEST_CELL = 255
BLANK_TILE = (0, 0, 0, 0, 0, 0, 0, 0, 0, 0, 0, 0, 0, 0, 0, 0)


def row_of_cells(tiles, row):
    cells = []
    for tile in tiles:
        cells.extend(tile[row * SIDE:(row + 1) * SIDE])
    return cells


def rows_of_tiles(tiles, wide):
    rows = []
    for first in range(0, len(tiles), wide):
        for row in range(SIDE):
            rows.append(row_of_cells(tiles[first:first + wide], row))
    return rows


def tile_at(rows, left, top):
    cells = []
    for row in rows[top:top + SIDE]:
        cells.extend(row[left:left + SIDE])
    return tuple(cells)


def tiles_of_rows(rows):
    tiles = []
    for top in range(0, len(rows), SIDE):
        for left in range(0, len(rows[0]), SIDE):
            tiles.append(tile_at(rows, left, top))
    return tiles


def has_cell(rows, x, y):
    return y < len(rows) and x < len(rows[0])


def put_box(rows, x, y, u, v, n):
    # The ends are cut first: u and v may be far larger than any loop should be.
    right = min(x + u, len(rows[0]))
    bottom = min(y + v, len(rows))
    for row in range(y, bottom):
        for column in range(x, right):
            rows[row][column] = n


def dots_fit(rows, dots):
    if len(dots) % 3 != 0:
        return False
    for at in range(0, len(dots), 3):
        if not has_cell(rows, dots[at], dots[at + 1]) or dots[at + 2] > LARGEST_CELL:
            return False
    return True


def put_dots(rows, dots):
    for at in range(0, len(dots), 3):
        rows[dots[at + 1]][dots[at]] = dots[at + 2]


def shifted(rows, n):
    moved = []
    for row in rows:
        cut = len(row) - n % len(row)
        moved.append(row[cut:] + row[:cut])
    return moved


def put_rows(rows, others, x, y):
    for j in range(len(others)):
        for i in range(len(others[j])):
            if others[j][i] != 0 and has_cell(rows, x + i, y + j):
                rows[y + j][x + i] = others[j][i]
