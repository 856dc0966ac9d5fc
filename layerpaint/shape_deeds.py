"""The deeds by which the picture is cropped and turned: 17 and 18."""

from layerpaint.picture import Picture
from layerpaint.picture import layer_with_dots
from layerpaint.refusals import CannotBe
from layerpaint.refusals import NotNow


# sources tells for each pixel of the new picture, in order, where it was.
def rearranged(picture, w, h, sources):
    layers = []
    for layer in picture.layers:
        layers.append(layer_with_dots(layer, [layer.dots[place] for place in sources]))
    chosen = [picture.chosen[place] for place in sources]
    return Picture(w, h, layers, picture.worked, chosen, picture.made)


def crop(picture, more):
    marked = [place for place, mark in enumerate(picture.chosen) if mark]
    if len(marked) == 0:
        raise NotNow()
    columns = [place % picture.w for place in marked]
    left = min(columns)
    right = max(columns)
    top = marked[0] // picture.w
    bottom = marked[-1] // picture.w
    sources = []
    for y in range(top, bottom + 1):
        sources.extend([y * picture.w + x for x in range(left, right + 1)])
    return rearranged(picture, right - left + 1, bottom - top + 1, sources)


# By a quarter what was at the top is at the right: the new row y is the old
# column y, from below.
def source(picture, k, x, y):
    if k == 0:
        return y * picture.w + picture.w - 1 - x
    if k == 1:
        return (picture.h - 1 - y) * picture.w + x
    return (picture.h - 1 - x) * picture.w + y


def turn(picture, more):
    k = more[0]
    if k > 2:
        raise CannotBe()
    w = picture.h if k == 2 else picture.w
    h = picture.w if k == 2 else picture.h
    sources = []
    for y in range(h):
        sources.extend([source(picture, k, x, y) for x in range(w)])
    return rearranged(picture, w, h, sources)
