"""The deeds on the dots that may change, on the layer worked on: 10 to 14."""

from layerpaint.picture import may_change
from layerpaint.picture import with_chosen
from layerpaint.picture import with_worked_dots
from layerpaint.picture import worked_colours
from layerpaint.picture import worked_dots
from layerpaint.refusals import CannotBe
from layerpaint.rounding import nearest

FURTHEST_WINDOW = 4
NO_MOVE = 16
MOST_MOVE = 32


def with_all_become(picture, dot):
    dots = [dot if free else old for old, free in zip(worked_dots(picture), may_change(picture))]
    return with_worked_dots(picture, dots)


def fill(picture, more):
    if more[0] > 255 or more[1] > 255:
        raise CannotBe()
    return with_all_become(picture, (more[0], more[1]))


def padded(line, reach):
    return [line[0]] * reach + line + [line[-1]] * reach


# The colours row by row, going on beyond the picture as the nearest at its
# edge, so that each window is a plain piece of them.
def padded_rows(picture, reach):
    colours = worked_colours(picture)
    rows = []
    for start in range(0, len(colours), picture.w):
        rows.append(padded(colours[start:start + picture.w], reach))
    return padded(rows, reach)


def window(rows, x, y, reach):
    wide = 2 * reach + 1
    found = []
    for line in rows[y:y + wide]:
        found.extend(line[x:x + wide])
    return found


# The colours are taken out beforehand, so that each window is looked at as it
# was before.
def recoloured(picture, reach, taken):
    rows = padded_rows(picture, reach)
    free = may_change(picture)
    dots = []
    for place, dot in enumerate(worked_dots(picture)):
        if free[place]:
            dots.append((taken(window(rows, place % picture.w, place // picture.w, reach)), dot[1]))
        else:
            dots.append(dot)
    return with_worked_dots(picture, dots)


def mean(colours):
    return nearest(sum(colours), len(colours))


def smooth(picture, more):
    if more[0] > FURTHEST_WINDOW:
        raise CannotBe()
    return recoloured(picture, more[0], mean)


def rank(picture, more):
    part = more[1]
    whole = more[2]
    if more[0] > FURTHEST_WINDOW or whole == 0 or part > whole:
        raise CannotBe()
    return recoloured(picture, more[0], lambda colours: sorted(colours)[part * (len(colours) - 1) // whole])


# The place to which a pixel moves, or -1 if that is beyond the picture.
def place_moved(picture, place, across, down):
    x = place % picture.w + across
    y = place // picture.w + down
    if 0 <= x < picture.w and 0 <= y < picture.h:
        return y * picture.w + x
    return -1


# What moves is taken from the picture before, so that no dot that has come
# moves on.
def move(picture, more):
    if more[0] > MOST_MOVE or more[1] > MOST_MOVE:
        raise CannotBe()
    before = worked_dots(picture)
    dots = list(worked_dots(with_all_become(picture, (0, 0))))
    reached = [0] * len(before)
    for place, free in enumerate(may_change(picture)):
        target = place_moved(picture, place, more[0] - NO_MOVE, more[1] - NO_MOVE)
        if free and target >= 0:
            dots[target] = before[place]
            reached[target] = 1
    moved = with_worked_dots(picture, dots)
    if any(picture.chosen):
        return with_chosen(moved, reached)
    return moved


def cut(picture, more):
    return with_all_become(picture, (0, 0))


# The dots that may change, each with its place: what cutting keeps aside.
def lifted(picture):
    dots = worked_dots(picture)
    free = may_change(picture)
    return [(place % picture.w, place // picture.w, dot) for place, dot in enumerate(dots) if free[place]]
