"""Whole numbers and lists, by the conventions of the whole package."""


def is_integer(value):
    """Whether any value is an INTEGER; True and False are none."""
    return isinstance(value, int) and not isinstance(value, bool)


def is_count(value):
    """Whether any value is a COUNT."""
    return is_integer(value) and value >= 0


def is_list(value):
    """Whether any value may be passed where a list is wanted."""
    return isinstance(value, (list, tuple))


def is_counts(value, many):
    """Whether any value is a list of so many COUNTS."""
    return is_list(value) and len(value) == many and all([is_count(count) for count in value])


def is_small_letter(value):
    """Whether any value is one small letter."""
    return isinstance(value, str) and len(value) == 1 and "a" <= value <= "z"


def fresh(value):
    """The value with all lists and dicts in it new."""
    if isinstance(value, list):
        return [fresh(part) for part in value]
    if isinstance(value, tuple):
        return tuple([fresh(part) for part in value])
    if isinstance(value, dict):
        return {key: fresh(value[key]) for key in value}
    return value


def is_rising(parts):
    """Whether the signs of a string, or the numbers of a list, are unlike and each greater than the one ahead."""
    return all([one < two for one, two in zip(parts, parts[1:])])


def is_rising_counts(value, limit):
    """Whether any value is a list, perhaps empty, of rising COUNTS below a limit."""
    if not is_list(value) or not all([is_count(count) and count < limit for count in value]):
        return False
    return is_rising(value)
