"""What layers show together, in exact fractions.

What there is so far at a pixel is three whole numbers: what it covers times
its colour, what it covers, and what both of these are to be divided by. So
nothing is rounded before the end, and no colour is divided by a cover of 0.
"""

from layerpaint.rounding import nearest


# What is met is M times what is covered below, over 255 times the divisor:
# with the cover in it no way has to divide by it.
def met(way, product, cover, colour):
    below = product * 255
    above = cover * colour
    if way == 0:
        return above
    if way == 1:
        return product * colour
    if way == 2:
        return below + above - product * colour
    if way == 3:
        return min(below, above)
    if way == 4:
        return max(below, above)
    if way == 5:
        return abs(below - above)
    return min(below + above, cover * 255)


def put_over(so_far, layer, place):
    if not layer.seen:
        return so_far
    product = so_far[0]
    cover = so_far[1]
    whole = so_far[2]
    colour = layer.dots[place][0]
    upper = layer.dots[place][1] * layer.strong
    bare = 65025 - upper
    upper_alone = colour * upper * (whole - cover)
    lower_alone = product * bare * 255
    both = upper * met(layer.way, product, cover, colour)
    covered = upper * whole + cover * bare
    return (upper_alone + lower_alone + both, covered * 255, whole * 65025 * 255)


# The document has both numbers 0 where the cover that is shown is 0, even if
# a little was covered before rounding.
def rounded_dot(so_far):
    cover = nearest(so_far[1] * 255, so_far[2])
    if cover == 0:
        return (0, 0)
    return (nearest(so_far[0] * 255, so_far[1]), cover)


def shown_dot(layers, place):
    so_far = (0, 0, 1)
    for layer in layers:
        so_far = put_over(so_far, layer, place)
    return rounded_dot(so_far)
