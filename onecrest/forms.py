"""Reading written forms: what they tell, or the first line that is wrong."""

from onecrest.basics import is_small_letter
from onecrest.blends import MOST_DEGREE, MOST_ENTRIES, MOST_LETTERS, Blend, is_letters
from onecrest.errors import InvalidText
from onecrest.tables import MOST_ROWS
from onecrest.wording import count_in, counts_in, number_in, numbers_in, way_in


def read(text):
    """The blend, table, dent or paper that has this written form."""
    if not isinstance(text, str):
        raise InvalidText(0)
    lines = text.split("\n")
    reader = _reader_of(lines[0].split(" "))
    if reader is None:
        raise InvalidText(1)
    for at in range(1, len(lines) - 1):
        if not reader.takes(lines[at].split(" ")):
            raise InvalidText(at + 1)
    # behind the last line feed there is nothing; what stands there is a line without one
    if lines[-1] != "" or not reader.is_complete():
        raise InvalidText(len(lines))
    return reader.told()


class BlendReader:
    """A blend, of which some lines are read."""

    def __init__(self, letters):
        self._letters = letters
        self._entries = []

    def takes(self, words):
        """Whether the next line may stand; it is kept then."""
        counts = counts_in(words[1:-1])
        amount = number_in(words[-1])
        if words[0] != "product" or counts is None or len(counts) != len(self._letters) or amount is None:
            return False
        if amount.sign <= 0 or not self._is_behind(tuple(counts)):
            return False
        self._entries.append((tuple(counts), amount))
        return True

    def is_complete(self):
        return True

    def told(self):
        return Blend(self._letters, self._entries)

    def _is_behind(self, counts):
        """Whether a product may stand behind those that are read."""
        if len(self._entries) == 0:
            return sum(counts) <= MOST_DEGREE
        last = self._entries[-1][0]
        return len(self._entries) < MOST_ENTRIES and sum(counts) == sum(last) and last < counts


class TableReader:
    """A table, of which some lines are read."""

    def __init__(self, size):
        self._size = size
        self._rows = []

    def takes(self, words):
        """Whether the next line may stand; it is kept then."""
        numbers = numbers_in(words[1:])
        at = len(self._rows)
        if words[0] != "row" or self.is_complete() or numbers is None or len(numbers) != self._size:
            return False
        if any([row[at] != numbers[place] for place, row in enumerate(self._rows)]):
            return False
        self._rows.append(numbers)
        return True

    def is_complete(self):
        return len(self._rows) == self._size

    def told(self):
        return [list(row) for row in self._rows]


class DentReader:
    """A dent, of which some lines are read."""

    def __init__(self, way):
        self._way = way
        self._lists = []

    def takes(self, words):
        """Whether the next line may stand; it is kept then."""
        numbers = numbers_in(words[1:])
        if self.is_complete() or numbers is None or not 1 <= len(numbers) <= MOST_LETTERS:
            return False
        if len(self._lists) == 0:
            right = words[0] == "weights" and all([number.sign > 0 for number in numbers])
        else:
            right = words[0] == "direction" and len(numbers) == len(self._lists[0])
        if right:
            self._lists.append(numbers)
        return right

    def is_complete(self):
        return len(self._lists) == 2

    def told(self):
        return self._way, list(self._lists[0]), list(self._lists[1])


class PaperReader:
    """A paper, of which some lines are read."""

    def __init__(self):
        self._paper = {}
        self._last = None
        self._kind = "tree"

    def takes(self, words):
        """Whether the next line may stand; it is kept then."""
        if words[0] == "at":
            return self._begins(words[1:])
        part = None
        if words[0] == "tie" and self._kind == "tree":
            part = _tie_in(words[1:])
        elif words[0] == "square" and self._kind == "squares":
            part = _square_in(words[1:])
        if part is None or self._last is None:
            return False
        self._paper[self._last].append(part)
        return True

    def is_complete(self):
        """A tree may be empty, squares may not."""
        return self._kind == "tree" or len(self._paper[self._last]) > 0

    def told(self):
        return {way: list(self._paper[way]) for way in self._paper}

    def _begins(self, words):
        """Whether the line of a further way may stand; it is kept then."""
        way = way_in(words[0]) if len(words) == 2 else None
        if way is None or words[1] not in ("tree", "squares") or not self.is_complete():
            return False
        if self._last is not None and (len(way), way) <= (len(self._last), self._last):
            return False
        self._last, self._kind = way, words[1]
        self._paper[way] = []
        return True


def _reader_of(words):
    """What reads the lines behind a first line, None if no written form begins so."""
    if words == ["paper"]:
        return PaperReader()
    if len(words) != 2:
        return None
    kind, word = words
    if kind == "blend" and is_letters(word):
        return BlendReader(word)
    if kind == "dent" and way_in(word) is not None:
        return DentReader(way_in(word))
    size = count_in(word) if kind == "table" else None
    if size is not None and 1 <= size <= MOST_ROWS:
        return TableReader(size)
    return None


def _tie_in(words):
    """The tie that words tell, None if they tell none."""
    counts = counts_in(words[2:])
    if counts is None or not 1 <= len(counts) <= MOST_LETTERS or words[0] == words[1]:
        return None
    if not is_small_letter(words[0]) or not is_small_letter(words[1]):
        return None
    return words[0], words[1], tuple(counts)


def _square_in(words):
    """The square that words tell, None if they tell none."""
    numbers = numbers_in(words)
    if numbers is None or not 2 <= len(numbers) <= MOST_LETTERS + 1 or numbers[0].sign == 0:
        return None
    return numbers[0], numbers[1:]
