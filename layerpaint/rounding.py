"""Rounding of a fraction that is told by two whole numbers."""


# Twice both, so that the half that is added is a whole number.
def nearest(part, whole):
    return (2 * part + whole) // (2 * whole)
