"""A picture and its layers.

Neither is changed once it is made: a deed makes another picture, so that the
states kept to be undone stay as they were and may share what didn't change.
"""

from layerpaint.refusals import NoSuchLayer


class Layer:
    def __init__(self, number, seen, strong, way, dots):
        self.number = number
        self.seen = seen
        self.strong = strong
        self.way = way
        self.dots = dots


# made counts the layers made so far; it belongs to the picture, so that the
# numbers of layers that are undone are given again.
class Picture:
    def __init__(self, w, h, layers, worked, chosen, made):
        self.w = w
        self.h = h
        self.layers = layers
        self.worked = worked
        self.chosen = chosen
        self.made = made


def plain_layer(number, dots):
    return Layer(number, 1, 255, 0, dots)


def first_picture(w, h, colours):
    dots = [(colour, 255) for colour in colours]
    return Picture(w, h, [plain_layer(0, dots)], 0, [0] * (w * h), 1)


def layer_place(picture, number):
    for place, layer in enumerate(picture.layers):
        if layer.number == number:
            return place
    raise NoSuchLayer()


def worked_place(picture):
    return layer_place(picture, picture.worked)


def worked_dots(picture):
    return picture.layers[worked_place(picture)].dots


def worked_colours(picture):
    return [dot[0] for dot in worked_dots(picture)]


def may_change(picture):
    if any(picture.chosen):
        return picture.chosen
    return [1] * len(picture.chosen)


def with_chosen(picture, chosen):
    return Picture(picture.w, picture.h, picture.layers, picture.worked, chosen, picture.made)


def with_layers(picture, layers, worked):
    return Picture(picture.w, picture.h, layers, worked, picture.chosen, picture.made)


def layer_with_dots(layer, dots):
    return Layer(layer.number, layer.seen, layer.strong, layer.way, dots)


def with_worked_dots(picture, dots):
    place = worked_place(picture)
    layers = list(picture.layers)
    layers[place] = layer_with_dots(layers[place], dots)
    return with_layers(picture, layers, picture.worked)
