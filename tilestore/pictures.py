"""The calls: how they lie in the list that is handed in, what they refuse and what they answer."""

from tilestore.album import Album
from tilestore.cells import LARGEST_CELL, dots_fit, put_box, put_dots, put_rows, shifted

PAGE = 0
BOX = 1
DOTS = 2
SHIFT = 3
COPY = 4
PASTE = 5
UNDO = 6

# How many whole numbers stand behind each call's own number, ahead of its row if it has one.
WHOLE_NUMBERS = (3, 6, 1, 2, 2, 4, 1)

LAST_PICTURE = 3
LONGEST_SIDE = 4

NO_PICTURE = -1
NOT_AS_TOLD = -2
NOT_BEFORE = -4


def is_side(number):
    return 1 <= number and number <= LONGEST_SIDE


def answer_page(album, p, w, h):
    if p > LAST_PICTURE:
        return [NO_PICTURE]
    if not is_side(w) or not is_side(h):
        return [NOT_AS_TOLD]
    album.lay_page(p, w, h)
    return album.store.how_it_stands()


def answer_change(album, p, rows):
    album.change_picture(p, rows)
    return album.store.how_it_stands()


def answer_box(album, p, x, y, u, v, n):
    if not album.has_picture(p):
        return [NO_PICTURE]
    if n > LARGEST_CELL:
        return [NOT_AS_TOLD]
    rows = album.rows_of_picture(p)
    put_box(rows, x, y, u, v, n)
    return answer_change(album, p, rows)


def answer_dots(album, p, dots):
    if not album.has_picture(p):
        return [NO_PICTURE]
    rows = album.rows_of_picture(p)
    if not dots_fit(rows, dots):
        return [NOT_AS_TOLD]
    put_dots(rows, dots)
    return answer_change(album, p, rows)


def answer_shift(album, p, n):
    if not album.has_picture(p):
        return [NO_PICTURE]
    return answer_change(album, p, shifted(album.rows_of_picture(p), n))


def answer_copy(album, p, q):
    if not album.has_picture(p):
        return [NO_PICTURE]
    if q > LAST_PICTURE or q == p:
        return [NOT_AS_TOLD]
    album.copy_picture(p, q)
    return album.store.how_it_stands()


def answer_paste(album, p, q, x, y):
    if not album.has_picture(p) or not album.has_picture(q):
        return [NO_PICTURE]
    if p == q:
        return [NOT_AS_TOLD]
    rows = album.rows_of_picture(q)
    put_rows(rows, album.rows_of_picture(p), x, y)
    return answer_change(album, q, rows)


def answer_undo(album, p):
    if not album.has_picture(p):
        return [NO_PICTURE]
    if not album.has_been_before(p):
        return [NOT_BEFORE]
    album.step_back(p)
    return album.store.how_it_stands()


def answer_call(album, call, given, row):
    if call == PAGE:
        return answer_page(album, given[0], given[1], given[2])
    if call == BOX:
        return answer_box(album, given[0], given[1], given[2], given[3], given[4], given[5])
    if call == DOTS:
        return answer_dots(album, given[0], row)
    if call == SHIFT:
        return answer_shift(album, given[0], given[1])
    if call == COPY:
        return answer_copy(album, given[0], given[1])
    if call == PASTE:
        return answer_paste(album, given[0], given[1], given[2], given[3])
    return answer_undo(album, given[0])


def row_at(calls, at):
    return calls[at + 1:at + 1 + calls[at]]


def answers(calls):
    album = Album()
    told = []
    at = 0
    while at < len(calls):
        call = calls[at]
        end = at + 1 + WHOLE_NUMBERS[call]
        given = calls[at + 1:end]
        row = []
        if call == DOTS:
            row = row_at(calls, end)
            end += 1 + len(row)
        answer = answer_call(album, call, given, row)
        told.append(len(answer))
        told.extend(answer)
        at = end
    return told
