"""The deeds on whole layers: 0 to 4, 15 and 16."""

from layerpaint.mixing import shown_dot
from layerpaint.picture import Layer
from layerpaint.picture import Picture
from layerpaint.picture import layer_place
from layerpaint.picture import plain_layer
from layerpaint.picture import with_layers
from layerpaint.picture import worked_place
from layerpaint.refusals import CannotBe
from layerpaint.refusals import NotNow
from layerpaint.refusals import TooMany

MOST_LAYERS = 5


def with_new_layer(picture, dots):
    if len(picture.layers) >= MOST_LAYERS:
        raise TooMany()
    number = picture.made
    layers = list(picture.layers)
    layers.insert(worked_place(picture) + 1, plain_layer(number, dots))
    return Picture(picture.w, picture.h, layers, number, picture.chosen, number + 1)


def make_layer(picture, more):
    return with_new_layer(picture, [(0, 0)] * (picture.w * picture.h))


def drop_layer(picture, more):
    place = layer_place(picture, more[0])
    if len(picture.layers) == 1:
        raise NotNow()
    layers = list(picture.layers)
    layers.pop(place)
    worked = layers[0].number if picture.worked == more[0] else picture.worked
    return with_layers(picture, layers, worked)


def raise_layer(picture, more):
    place = layer_place(picture, more[0])
    if place == len(picture.layers) - 1:
        raise NotNow()
    layers = list(picture.layers)
    layer = layers.pop(place)
    layers.insert(place + 1, layer)
    return with_layers(picture, layers, picture.worked)


def set_layer(picture, more):
    seen = more[1]
    strong = more[2]
    way = more[3]
    if seen > 1 or strong > 255 or way > 6:
        raise CannotBe()
    place = layer_place(picture, more[0])
    layers = list(picture.layers)
    layers[place] = Layer(more[0], seen, strong, way, layers[place].dots)
    return with_layers(picture, layers, picture.worked)


def work_on_layer(picture, more):
    layer_place(picture, more[0])
    return with_layers(picture, picture.layers, more[0])


# What is aside keeps its places when the picture is cropped or turned, so
# some of them may be beyond it now.
def paste_layer(picture, aside):
    if len(aside) == 0:
        raise NotNow()
    dots = [(0, 0)] * (picture.w * picture.h)
    for x, y, dot in aside:
        if x < picture.w and y < picture.h:
            dots[y * picture.w + x] = dot
    return with_new_layer(picture, dots)


# Over nothing the way of the lower one makes no difference: it need not be
# taken for 0 before.
def put_together(picture, more):
    place = worked_place(picture)
    if place == 0:
        raise NotNow()
    both = picture.layers[place - 1:place + 1]
    dots = [shown_dot(both, pixel) for pixel in range(picture.w * picture.h)]
    lower = Layer(both[0].number, 1, 255, both[0].way, dots)
    layers = picture.layers[:place - 1] + [lower] + picture.layers[place + 1:]
    return with_layers(picture, layers, lower.number)
