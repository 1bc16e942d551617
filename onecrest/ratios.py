"""Exact numbers: INTEGERS and fractions in lowest terms."""

from math import gcd

from onecrest.basics import is_integer, is_list
from onecrest.errors import DividedByZero, InvalidNumber


class Ratio:
    """A fraction in lowest terms, its bottom at least 1; it never changes."""

    def __init__(self, top, bottom=1):
        for value in (top, bottom):
            if not is_integer(value):
                raise InvalidNumber(value)
        if bottom == 0:
            raise InvalidNumber(bottom)
        shared = gcd(top, bottom)
        if bottom < 0:
            shared = -shared
        self._top = top // shared
        self._bottom = bottom // shared

    @property
    def top(self):
        return self._top

    @property
    def bottom(self):
        return self._bottom

    @property
    def sign(self):
        if self._top > 0:
            return 1
        return -1 if self._top < 0 else 0

    @property
    def is_whole(self):
        return self._bottom == 1

    def __add__(self, other):
        right = ratio_of(other)
        top = self._top * right.bottom + right.top * self._bottom
        return Ratio(top, self._bottom * right.bottom)

    def __radd__(self, other):
        return ratio_of(other) + self

    def __sub__(self, other):
        right = ratio_of(other)
        top = self._top * right.bottom - right.top * self._bottom
        return Ratio(top, self._bottom * right.bottom)

    def __rsub__(self, other):
        return ratio_of(other) - self

    def __mul__(self, other):
        right = ratio_of(other)
        return Ratio(self._top * right.top, self._bottom * right.bottom)

    def __rmul__(self, other):
        return ratio_of(other) * self

    def __neg__(self):
        return Ratio(-self._top, self._bottom)

    def over(self, other):
        """This number divided by a NUMBER."""
        right = ratio_of(other)
        if right.top == 0:
            raise DividedByZero()
        return Ratio(self._top * right.bottom, self._bottom * right.top)

    def size(self):
        """This number without its sign."""
        return Ratio(abs(self._top), self._bottom)

    def is_below(self, other):
        """Whether it is less than a NUMBER."""
        right = ratio_of(other)
        return self._top * right.bottom < right.top * self._bottom

    def is_at_most(self, other):
        """Whether it is not greater than a NUMBER."""
        right = ratio_of(other)
        return self._top * right.bottom <= right.top * self._bottom

    @classmethod
    def total(cls, numbers):
        """The sum of a list of NUMBERS."""
        if not is_list(numbers):
            raise InvalidNumber(numbers)
        result = cls(0)
        for number in numbers:
            result = result + number
        return result

    def __eq__(self, other):
        return isinstance(other, Ratio) and self._top == other._top and self._bottom == other._bottom

    def __str__(self):
        if self._bottom == 1:
            return str(self._top)
        return f"{self._top}/{self._bottom}"

    def __repr__(self):
        return f"Ratio({self._top}, {self._bottom})"


def is_number(value):
    """Whether any value is a NUMBER, an INTEGER or a Ratio."""
    return is_integer(value) or isinstance(value, Ratio)


def is_share(value):
    """Whether any value is a NUMBER from 0 to 1."""
    if not is_number(value):
        return False
    number = ratio_of(value)
    return number.sign >= 0 and number.is_at_most(1)


def is_above(value):
    """Whether any value is a NUMBER above 0."""
    return is_number(value) and ratio_of(value).sign > 0


def is_numbers(value, many):
    """Whether any value is a list of so many NUMBERS."""
    return is_list(value) and len(value) == many and all([is_number(number) for number in value])


def is_from_nought(value, many):
    """Whether any value is a list of so many NUMBERS from 0 on."""
    return is_numbers(value, many) and all([ratio_of(number).sign >= 0 for number in value])


def ratio_of(value):
    """The Ratio of a NUMBER's worth; InvalidNumber for any other value."""
    return value if isinstance(value, Ratio) else Ratio(value)


def ratios_of(numbers):
    """The Ratios of a list of NUMBERS."""
    return [ratio_of(number) for number in numbers]


def nearest(numbers, scale):
    """The INTEGERS, told as Ratios, next to so many times the numbers over the greatest of their sizes."""
    greatest = Ratio(0)
    for number in numbers:
        if greatest.is_below(number.size()):
            greatest = number.size()
    times = [(number * scale).over(greatest) for number in numbers]
    return [Ratio((number.top * 2 + number.bottom) // (number.bottom * 2)) for number in times]
