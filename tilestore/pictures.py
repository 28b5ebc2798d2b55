"""The calls: how they lie in the list that is handed in, what they refuse and what they answer."""

from tilestore.album import Album
from tilestore.cells import LARGEST_CELL, dots_fit, has_cell, put_box, put_dots, put_rows, shifted

PAGE = 0
BOX = 1
DOTS = 2
SHIFT = 3
COPY = 4
PASTE = 5
UNDO = 6
CLOSE = 7
CELLS = 8
CELL = 9
TILE = 10
SAME = 11
STORE = 12
SLOT = 13

# How many whole numbers stand behind each call's own number, ahead of its row if it has one.
WHOLE_NUMBERS = (3, 6, 1, 2, 2, 4, 1, 1, 1, 3, 2, 2, 0, 1)

LAST_PICTURE = 3
LONGEST_SIDE = 4

NO_PICTURE = -1
NOT_AS_TOLD = -2
NOT_BEFORE = -4
FREE_PLACE = -6


def is_side(number):
    return 1 <= number and number <= LONGEST_SIDE


def answer_page(album, p, w, h):
    if p > LAST_PICTURE:
        return [NO_PICTURE]
    if not is_side(w) or not is_side(h):
        return [NOT_AS_TOLD]
    album.lay_page(p, w, h)
    return album.store.how_it_stands()


def answer_change(album, p, rows):
    album.change_picture(p, rows)
    return album.store.how_it_stands()


def answer_box(album, p, x, y, u, v, n):
    if not album.has_picture(p):
        return [NO_PICTURE]
    if n > LARGEST_CELL:
        return [NOT_AS_TOLD]
    rows = album.rows_of_picture(p)
    put_box(rows, x, y, u, v, n)
    return answer_change(album, p, rows)


def answer_dots(album, p, dots):
    if not album.has_picture(p):
        return [NO_PICTURE]
    rows = album.rows_of_picture(p)
    if not dots_fit(rows, dots):
        return [NOT_AS_TOLD]
    put_dots(rows, dots)
    return answer_change(album, p, rows)


def answer_shift(album, p, n):
    if not album.has_picture(p):
        return [NO_PICTURE]
    return answer_change(album, p, shifted(album.rows_of_picture(p), n))


def answer_copy(album, p, q):
    if not album.has_picture(p):
        return [NO_PICTURE]
    if q > LAST_PICTURE or q == p:
        return [NOT_AS_TOLD]
    album.copy_picture(p, q)
    return album.store.how_it_stands()


def answer_paste(album, p, q, x, y):
    if not album.has_picture(p) or not album.has_picture(q):
        return [NO_PICTURE]
    if p == q:
        return [NOT_AS_TOLD]
    rows = album.rows_of_picture(q)
    put_rows(rows, album.rows_of_picture(p), x, y)
    return answer_change(album, q, rows)


def answer_undo(album, p):
    if not album.has_picture(p):
        return [NO_PICTURE]
    if not album.has_been_before(p):
        return [NOT_BEFORE]
    album.step_back(p)
    return album.store.how_it_stands()


def answer_close(album, p):
    if not album.has_picture(p):
        return [NO_PICTURE]
    album.drop_picture(p)
    return album.store.how_it_stands()


def answer_cells(album, p):
    if not album.has_picture(p):
        return [NO_PICTURE]
    rows = album.rows_of_picture(p)
    answer = [len(rows[0]), len(rows)]
    for row in rows:
        answer.extend(row)
    return answer


def answer_cell(album, p, x, y):
    if not album.has_picture(p):
        return [NO_PICTURE]
    rows = album.rows_of_picture(p)
    if not has_cell(rows, x, y):
        return [NOT_AS_TOLD]
    return [rows[y][x]]


def answer_tile(album, p, i):
    if not album.has_picture(p):
        return [NO_PICTURE]
    places = album.places_of_picture(p)
    if i >= len(places):
        return [NOT_AS_TOLD]
    return [places[i], album.store.counts[places[i]]]


def same_at(places, others):
    # Pictures of unlike size share only the tiles' numbers that both have.
    both = min(len(places), len(others))
    return len([i for i in range(both) if places[i] == others[i]])


def answer_same(album, p, q):
    if not album.has_picture(p) or not album.has_picture(q):
        return [NO_PICTURE]
    places = album.places_of_picture(p)
    others = album.places_of_picture(q)
    return [same_at(places, others), len(set(places) & set(others))]


def answer_store(album):
    store = album.store
    return [len(store.counts), store.in_use()] + store.counts


def answer_slot(album, i):
    store = album.store
    if i >= len(store.counts):
        return [NOT_AS_TOLD]
    if store.is_free(i):
        return [FREE_PLACE]
    return list(store.tiles[i])


def answer_changing(album, call, given, row):
    if call == PAGE:
        return answer_page(album, given[0], given[1], given[2])
    if call == BOX:
        return answer_box(album, given[0], given[1], given[2], given[3], given[4], given[5])
    if call == DOTS:
        return answer_dots(album, given[0], row)
    if call == SHIFT:
        return answer_shift(album, given[0], given[1])
    if call == COPY:
        return answer_copy(album, given[0], given[1])
    if call == PASTE:
        return answer_paste(album, given[0], given[1], given[2], given[3])
    if call == UNDO:
        return answer_undo(album, given[0])
    return answer_close(album, given[0])


def answer_telling(album, call, given):
    if call == CELLS:
        return answer_cells(album, given[0])
    if call == CELL:
        return answer_cell(album, given[0], given[1], given[2])
    if call == TILE:
        return answer_tile(album, given[0], given[1])
    if call == SAME:
        return answer_same(album, given[0], given[1])
    if call == STORE:
        return answer_store(album)
    return answer_slot(album, given[0])


def answer_call(album, call, given, row):
    if call <= CLOSE:
        return answer_changing(album, call, given, row)
    return answer_telling(album, call, given)


def row_at(calls, at):
    return calls[at + 1:at + 1 + calls[at]]


def answers(calls):
    album = Album()
    told = []
    at = 0
    while at < len(calls):
        call = calls[at]
        end = at + 1 + WHOLE_NUMBERS[call]
        given = calls[at + 1:end]
        row = []
        if call == DOTS:
            row = row_at(calls, end)
            end += 1 + len(row)
        answer = answer_call(album, call, given, row)
        told.append(len(answer))
        told.extend(answer)
        at = end
    return told
