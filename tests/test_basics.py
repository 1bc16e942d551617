"""INTEGER, COUNT [2]."""

from onecrest.basics import is_count, is_integer
from plain import Case


class BasicsTest(Case):
    def test_integers(self):
        for value in (0, 1, -1, 7, -10 ** 50, 10 ** 5000):
            self.assertIs(is_integer(value), True)
        self.judges(is_integer, [0, 1, -1, 7, 10 ** 40])

    def test_counts(self):
        for value in (0, 1, 10 ** 50):
            self.assertIs(is_count(value), True)
        for value in (-1, -10 ** 50):
            self.assertIs(is_count(value), False)
        self.judges(is_count, [0, 1, 7, 10 ** 40])

    def test_by_name(self):
        self.assertIs(is_integer(value=True), False)
        self.assertIs(is_count(value=3), True)
