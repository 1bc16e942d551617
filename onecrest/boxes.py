"""Boxes of as many sides as there are boxes, added up: volumes and mixed volumes."""

from math import factorial

from onecrest.checks import is_square_from_nought
from onecrest.errors import InvalidBoxes
from onecrest.permanents import forms_blend, permanent


def volume_blend(boxes):
    """The blend whose worth is the volume of all boxes added, each grown by its letter's weight."""
    _check_boxes(boxes)
    return forms_blend([[box[way] for box in boxes] for way in range(len(boxes))])


def mixed_volume(boxes):
    """The amount of each letter once in the volume blend, over n!."""
    _check_boxes(boxes)
    return permanent(boxes).over(factorial(len(boxes)))


def _check_boxes(boxes):
    if not is_square_from_nought(boxes):
        raise InvalidBoxes(boxes)
