"""All deeds by their numbers, and what they cost."""

from layerpaint.choice_deeds import choose_all
from layerpaint.choice_deeds import choose_flood
from layerpaint.choice_deeds import choose_rectangle
from layerpaint.choice_deeds import grow_choice
from layerpaint.choice_deeds import shrink_choice
from layerpaint.dot_deeds import cut
from layerpaint.dot_deeds import fill
from layerpaint.dot_deeds import move
from layerpaint.dot_deeds import rank
from layerpaint.dot_deeds import smooth
from layerpaint.layer_deeds import drop_layer
from layerpaint.layer_deeds import make_layer
from layerpaint.layer_deeds import paste_layer
from layerpaint.layer_deeds import put_together
from layerpaint.layer_deeds import raise_layer
from layerpaint.layer_deeds import set_layer
from layerpaint.layer_deeds import work_on_layer
from layerpaint.shape_deeds import crop
from layerpaint.shape_deeds import turn

# How many numbers each deed is told, from deed 0 on.
TOLD = (0, 1, 1, 4, 1, 5, 6, 1, 1, 1, 2, 1, 3, 2, 0, 0, 0, 0, 1)
CUT = 14
PASTE = 15


def is_told_so(deed, more):
    return deed < len(TOLD) and len(more) == TOLD[deed]


def deeds_on_picture():
    return {
        0: make_layer,
        1: drop_layer,
        2: raise_layer,
        3: set_layer,
        4: work_on_layer,
        5: choose_rectangle,
        6: choose_flood,
        7: choose_all,
        8: grow_choice,
        9: shrink_choice,
        10: fill,
        11: smooth,
        12: rank,
        13: move,
        CUT: cut,
        16: put_together,
        17: crop,
        18: turn,
    }


# Pasting alone needs more than the picture to begin with.
def picture_after(picture, aside, deed, more):
    if deed == PASTE:
        return paste_layer(picture, aside)
    doing = deeds_on_picture()[deed]
    return doing(picture, more)


def whole_size(picture):
    return (len(picture.layers) + 1) * picture.w * picture.h


def differing(before, after):
    return sum([1 for old, new in zip(before, after) if old != new])


def dots_by_number(picture):
    return dict([(layer.number, layer.dots) for layer in picture.layers])


def dots_changed(before, after):
    old = dots_by_number(before)
    new = dots_by_number(after)
    changed = 0
    for number in old:
        changed += differing(old[number], new[number]) if number in new else len(old[number])
    for number in new:
        changed += 0 if number in old else len(new[number])
    return changed


def cost(before, after):
    if before.w != after.w or before.h != after.h:
        return 1 + whole_size(before) + whole_size(after)
    return 1 + dots_changed(before, after) + differing(before.chosen, after.chosen)
