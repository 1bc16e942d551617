"""Whole numbers and lists, by the conventions of the whole package."""


def is_integer(value):
    """Whether any value is an INTEGER; True and False are none."""
    return isinstance(value, int) and not isinstance(value, bool)


def is_count(value):
    """Whether any value is a COUNT."""
    return is_integer(value) and value >= 0


def is_list(value):
    """Whether any value may be passed where a list is wanted."""
    return isinstance(value, (list, tuple))


def is_counts(value, many):
    """Whether any value is a list of so many COUNTS."""
    return is_list(value) and len(value) == many and all([is_count(count) for count in value])


def is_small_letter(value):
    """Whether any value is one small letter."""
    return isinstance(value, str) and len(value) == 1 and "a" <= value <= "z"


def is_rising(letters):
    """Whether the signs of a string are unlike and stand in alphabetical sequence."""
    return all([one < two for one, two in zip(letters, letters[1:])])
