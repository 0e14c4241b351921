import random
import unittest
from fractions import Fraction

from restdraw.pulling import farthest, pull
from tests.helper import (
    FOUR, TRIANGLE, TWISTED, drawing_of, flat_webs, other_webs, pair_of, spot, star,
)


def spots_by(chance, many, figures):
    def made():
        return Fraction(chance.randrange(-10 ** figures, 10 ** figures), chance.randrange(1, 10 ** figures))

    return [(made(), made()) for _ in range(many)]


class TestPull(unittest.TestCase):
    def test_some(self):
        drawing = drawing_of([(0, 0), (4, 0), (0, 3)])
        self.assertEqual(pull(TRIANGLE, drawing, {}, 0), ((4, 1), (3, 1)))
        self.assertEqual(pull(TRIANGLE, drawing, {}, 1), ((-8, 1), (3, 1)))
        self.assertEqual(pull(TRIANGLE, drawing, {(0, 1): 5}, 0), ((20, 1), (3, 1)))
        # The step back has a weight of its own.
        self.assertEqual(pull(TRIANGLE, drawing, {(1, 0): 5}, 0), ((4, 1), (3, 1)))
        self.assertEqual(pull(TRIANGLE, drawing, {(1, 0): 5, (1, 2): 2}, 1), ((-28, 1), (6, 1)))

    def test_in_lowest_terms(self):
        drawing = drawing_of([(Fraction(1, 2), 0), (Fraction(3, 2), Fraction(1, 6)), (0, Fraction(1, 3))])
        self.assertEqual(pull(TRIANGLE, drawing, {}, 0), ((1, 2), (1, 2)))

    def test_amid_its_neighbours(self):
        drawing = drawing_of([(0, 0), (3, 0), (0, 3), (1, 1)])
        self.assertEqual(pull(FOUR, drawing, {}, 3), ((0, 1), (0, 1)))
        self.assertEqual(pull(FOUR, drawing, {(3, 0): 1, (3, 1): 1}, 3), ((0, 1), (0, 1)))
        self.assertEqual(pull(FOUR, drawing, {(3, 0): 2}, 3), ((-1, 1), (-1, 1)))

    def test_any_web_any_drawing_any_weights(self):
        for at, web in enumerate(flat_webs() + other_webs()[:20] + [TWISTED]):
            chance = random.Random(at)
            spots = spots_by(chance, len(web), chance.choice((1, 3, 60 if len(web) < 9 else 12)))
            if at % 4 == 0:
                spots = [spots[0]] * len(web)
            weights = {
                (p, q): chance.choice((1, 2, 1000000, chance.randrange(1, 100)))
                for p, row in enumerate(web) for q in row if chance.randrange(2)
            }
            held = dict(weights)
            drawing = drawing_of(spots)
            for p, row in enumerate(web):
                told = spot(pull(web, drawing, weights, p))
                for k in (0, 1):
                    terms = [weights.get((p, q), 1) * (spots[q][k] - spots[p][k]) for q in row]
                    self.assertEqual(told[k], sum(terms))
            self.assertEqual(weights, held)
            self.assertEqual(list(weights), list(held))
            self.assertEqual(drawing, drawing_of(spots))

    def test_told_alike_again(self):
        drawing = drawing_of(spots_by(random.Random(1), 5, 4))
        weights = {(0, 1): 7}
        first = pull(star(5), drawing, weights, 0)
        self.assertEqual(pull(star(5), drawing, weights, 0), first)
        weights[(0, 1)] = 8
        self.assertNotEqual(pull(star(5), drawing, weights, 0), first)


class TestFarthest(unittest.TestCase):
    def test_some(self):
        one = drawing_of([(0, 0), (1, 0), (0, 1)])
        other = drawing_of([(0, 0), (1, Fraction(-1, 2)), (Fraction(1, 3), 1)])
        self.assertEqual(farthest(one, other), (1, (1, 2)))
        self.assertEqual(farthest(other, one), (1, (1, 2)))
        self.assertEqual(farthest(drawing_of([(0, 0), (1, 0), (-3, 1)]), one), (2, (3, 1)))

    def test_the_greater_of_x_and_y(self):
        nought = drawing_of([(0, 0)] * 3)
        for x, y in ((2, 3), (3, 2), (-2, 3), (2, -3), (-3, -2), (-3, 3), (0, -3), (-3, 0)):
            told = farthest(drawing_of([(0, 0), (x, y), (0, 0)]), nought)
            self.assertEqual(told, (1, (3, 1)))

    def test_one_drawing(self):
        for many in (3, 15, 40):
            drawing = drawing_of(spots_by(random.Random(many), many, 5))
            self.assertEqual(farthest(drawing, drawing), (0, (0, 1)))

    def test_the_first_of_several(self):
        nought = drawing_of([(0, 0)] * 5)
        self.assertEqual(farthest(nought, drawing_of([(0, 1), (0, 2), (2, 0), (-2, 2), (0, -2)])), (1, (2, 1)))
        self.assertEqual(farthest(nought, drawing_of([(1, 1), (0, -1), (1, 0), (1, 1), (1, 1)])), (0, (1, 1)))
        self.assertEqual(farthest(nought, drawing_of([(1, 1), (1, 1), (1, 1), (1, 1), (5, 1)])), (4, (5, 1)))

    def test_any_drawings(self):
        for seed in range(80):
            chance = random.Random(seed)
            many = chance.choice((3, 4, 7, 15, 40))
            figures = chance.choice((1, 1, 2, 12, 60))
            one, other = spots_by(chance, many, figures), spots_by(chance, many, figures)
            if seed % 3 == 0:
                other = [(x + chance.choice((-1, 0, 1)), y + chance.choice((-1, 0, 1))) for x, y in one]
            gaps = [max(abs(x - u), abs(y - v)) for (x, y), (u, v) in zip(one, other)]
            place = gaps.index(max(gaps))
            handed, second = drawing_of(one), drawing_of(other)
            self.assertEqual(farthest(handed, second), (place, pair_of(gaps[place])))
            self.assertEqual((handed, second), (drawing_of(one), drawing_of(other)))

    def test_great_numbers(self):
        great = 10 ** 5000
        one = drawing_of([(great, 0), (Fraction(1, great), 0), (0, 0)])
        other = drawing_of([(great, 0), (0, 0), (0, Fraction(-1, great - 1))])
        self.assertEqual(farthest(one, other), (2, (1, great - 1)))
        self.assertEqual(pull(TRIANGLE, one, {}, 1), (pair_of(great - Fraction(2, great)), (0, 1)))


if __name__ == "__main__":
    unittest.main()
