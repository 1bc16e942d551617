"""Boxes, volume blends, mixed volumes [89]."""

import random
from itertools import permutations
from math import factorial, prod

from onecrest.blends import Blend
from onecrest.boxes import mixed_volume, volume_blend
from onecrest.errors import InvalidBoxes
from onecrest.judge import is_crested
from onecrest.permanents import permanent
from onecrest.ratios import Ratio
from onecrest.taken import taken
from plain import Case, fraction, random_number, ratio, terms, worth_of
from test_permanents import NO_ROWS, plain_permanent, squares_of_rows


def plain_volume(boxes, weights):
    """The product of the sides of all boxes added, each grown by its weight."""
    sides = [sum(fraction(box[way]) * fraction(weight) for box, weight in zip(boxes, weights)) for way in range(len(boxes))]
    return prod(sides)


class BoxesTest(Case):
    def test_document(self):
        self.same([mixed_volume([[1, 2], [3, 4]]), mixed_volume([[2, 5], [2, 5]]),
                   volume_blend([[1, 2], [3, 4]]).amount([1, 1])], [Ratio(5, 1), Ratio(10, 1), Ratio(10, 1)])

    def test_boxes_added(self):
        draw = random.Random(891)
        for boxes in squares_of_rows(892):
            told = self.keeps(volume_blend, boxes)
            self.same(told.letters, "abcde"[:len(boxes)])
            for _ in range(3):
                weights = [random_number(draw, 0, 5) for _ in boxes]
                self.assertEqual(worth_of(terms(told), weights), plain_volume(boxes, weights))
            # one letter alone: the volume of its box
            for place, box in enumerate(boxes):
                counts = [len(boxes) if at == place else 0 for at in range(len(boxes))]
                self.same(told.amount(counts), ratio(prod(map(fraction, box))))
            self.same(volume_blend(boxes=tuple(map(tuple, boxes))), told)
            self.assertTrue(len(boxes) > 3 or is_crested(told))

    def test_mixed_volumes(self):
        for boxes in squares_of_rows(893):
            told = self.keeps(mixed_volume, boxes)
            self.same(told, ratio(plain_permanent(boxes) / factorial(len(boxes))))
            self.same(mixed_volume(boxes=tuple(boxes)), told)
            self.same(told * factorial(len(boxes)), volume_blend(boxes).amount([1] * len(boxes)))
            # taking each letter out once leaves n! times the mixed volume
            self.same(taken(volume_blend(boxes), "abcde"[:len(boxes)]).amount([0] * len(boxes)), permanent(boxes))
            box = boxes[0]
            self.same(mixed_volume([box] * len(boxes)), ratio(prod(map(fraction, box))))

    def test_twins(self):
        """The mixed volume times itself is at least the product of those with each of two boxes twice [86]."""
        for boxes in squares_of_rows(894, 30):
            for first, second in permutations(range(len(boxes)), 2):
                one, two = list(boxes), list(boxes)
                one[second], two[first] = boxes[first], boxes[second]
                both = mixed_volume(boxes)
                self.assertTrue((mixed_volume(one) * mixed_volume(two)).is_at_most(both * both))

    def test_edges(self):
        self.same([volume_blend([[3]]), mixed_volume([[3]]), volume_blend([[0]]), mixed_volume([[0]])],
                  [Blend("a", [((1,), 3)]), Ratio(3), Blend("a"), Ratio(0)])
        # a box without a side in one way, another one that has it alone
        self.same(volume_blend([[2, 0], [0, 3]]), Blend("ab", [((1, 1), 6)]))
        self.same([volume_blend([[1, 0], [4, 0]]), mixed_volume([[1, 0], [4, 0]])], [Blend("ab"), Ratio(0)])
        self.same(volume_blend([[0, 0], [1, 2]]), Blend("ab", [((0, 2), 2)]))
        # which way is which: a box's first side stands with the first sides of the others
        self.same(volume_blend([[1, 2], [3, 5]]).entries(),
                  [((0, 2), Ratio(15)), ((1, 1), Ratio(11)), ((2, 0), Ratio(2))])

    def test_wrong(self):
        for value in NO_ROWS:
            for call in (volume_blend, mixed_volume):
                self.fails(InvalidBoxes(value), call, value)
                self.fails(InvalidBoxes(value), call, boxes=value)
