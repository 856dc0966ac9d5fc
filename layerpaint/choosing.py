"""Which pixels are told, and how they are joined to those chosen.

A choice is a list with 1 or 0 for each pixel in order.
"""

from layerpaint.picture import worked_colours


def joined_one(how, chosen, told):
    if how == 0:
        return told
    if how == 1:
        return chosen | told
    if how == 2:
        return chosen & (1 - told)
    if how == 3:
        return chosen & told
    return chosen ^ told


def joined(how, chosen, told):
    return [joined_one(how, old, new) for old, new in zip(chosen, told)]


# Cut to the picture first: the sides that are told may be far beyond it.
def rectangle(picture, left, top, wide, high):
    right = min(left + wide, picture.w)
    bottom = min(top + high, picture.h)
    told = []
    for y in range(picture.h):
        for x in range(picture.w):
            told.append(1 if left <= x < right and top <= y < bottom else 0)
    return told


def steps(corners):
    straight = [(0, -1), (0, 1), (-1, 0), (1, 0)]
    if corners == 0:
        return straight
    return straight + [(-1, -1), (1, -1), (-1, 1), (1, 1)]


def beside(picture, place, corners):
    found = []
    for step in steps(corners):
        x = place % picture.w + step[0]
        y = place // picture.w + step[1]
        if 0 <= x < picture.w and 0 <= y < picture.h:
            found.append(y * picture.w + x)
    return found


def flood(picture, start, tolerance, kind, corners):
    colours = worked_colours(picture)
    reached = [0] * len(colours)
    reached[start] = 1
    waiting = [start]
    while waiting:
        place = waiting.pop()
        measure = colours[start] if kind == 0 else colours[place]
        for other in beside(picture, place, corners):
            if reached[other] == 0 and abs(colours[other] - measure) <= tolerance:
                reached[other] = 1
                waiting.append(other)
    return reached


def is_near(w, place, marked, r):
    for other in marked:
        across = place % w - other % w
        down = place // w - other // w
        if across * across + down * down <= r:
            return True
    return False


def grown(w, chosen, r):
    marked = [place for place, mark in enumerate(chosen) if mark]
    return [1 if is_near(w, place, marked, r) else 0 for place in range(len(chosen))]


# What is further than r from all that isn't chosen is what isn't reached when
# that grows.
def shrunk(w, chosen, r):
    return reversed_choice(grown(w, reversed_choice(chosen), r))


def reversed_choice(chosen):
    return [1 - mark for mark in chosen]
