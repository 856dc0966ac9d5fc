"""The deeds by which pixels are chosen: 5 to 9."""

from layerpaint.choosing import flood
from layerpaint.choosing import grown
from layerpaint.choosing import joined
from layerpaint.choosing import rectangle
from layerpaint.choosing import shrunk
from layerpaint.picture import with_chosen
from layerpaint.refusals import CannotBe

LAST_HOW = 4
MOST_REACH = 1000


def with_joined(picture, how, told):
    return with_chosen(picture, joined(how, picture.chosen, told))


def choose_rectangle(picture, more):
    if more[0] > LAST_HOW:
        raise CannotBe()
    return with_joined(picture, more[0], rectangle(picture, more[1], more[2], more[3], more[4]))


def choose_flood(picture, more):
    x = more[1]
    y = more[2]
    kind = more[4]
    corners = more[5]
    if more[0] > LAST_HOW or kind > 1 or corners > 1:
        raise CannotBe()
    if x >= picture.w or y >= picture.h:
        raise CannotBe()
    return with_joined(picture, more[0], flood(picture, y * picture.w + x, more[3], kind, corners))


def choose_all(picture, more):
    if more[0] > LAST_HOW:
        raise CannotBe()
    return with_joined(picture, more[0], [1] * len(picture.chosen))


def grow_choice(picture, more):
    if more[0] > MOST_REACH:
        raise CannotBe()
    return with_chosen(picture, grown(picture.w, picture.chosen, more[0]))


def shrink_choice(picture, more):
    if more[0] > MOST_REACH:
        raise CannotBe()
    return with_chosen(picture, shrunk(picture.w, picture.chosen, more[0]))
