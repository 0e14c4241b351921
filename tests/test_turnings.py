import itertools
import random
import unittest
from fractions import Fraction

from restdraw.errors import Alike, Folded
from restdraw.turnings import area, bends, turned
from restdraw.webs import is_web
from tests.helper import (
    FOUR, SEVEN, TRIANGLE, TWISTED, Refusing, all_tied, chain, drawing_of, flat_webs, number, other_webs,
    pairs_of, random_flat, ring, side, star, web_of_points,
)

# Round the middle, to the left, from straight to the right on.
AROUND = [(2, 0), (2, 1), (1, 1), (1, 2), (0, 2), (-1, 2), (-1, 1), (-2, 1), (-2, 0), (-2, -1), (-1, -1), (-1, -2),
          (0, -2), (1, -2), (1, -1), (2, -1)]


def one_direction(spots, row, p):
    """Whether two neighbours of the place stand in one direction, by how far they are along a line."""
    for q, r in itertools.combinations(row, 2):
        wide = (spots[q][0] - spots[p][0]) * (spots[r][0] - spots[p][0])
        high = (spots[q][1] - spots[p][1]) * (spots[r][1] - spots[p][1])
        if side(spots[p], spots[q], spots[r]) == 0 and wide + high > 0:
            return True
    return False


class TestTurned(Refusing):
    def test_some(self):
        self.assertEqual(turned(FOUR, drawing_of([(0, 0), (6, 0), (0, 6), (2, 2)])), FOUR)
        self.assertEqual(turned(TWISTED, drawing_of([(0, 0), (6, 0), (0, 6), (2, 2)])), FOUR)
        self.assertEqual(turned(TRIANGLE, drawing_of([(0, 0), (1, 0), (0, 1)])), TRIANGLE)
        self.assertEqual(turned(TRIANGLE, drawing_of([(0, 0), (0, 1), (1, 0)])), TRIANGLE)

    def test_the_four_ways(self):
        right, up, left, down = (5, 0), (0, 5), (-5, 0), (0, -5)
        self.assertEqual(turned(star(5), drawing_of([(0, 0), right, up, left, down]))[0], (1, 2, 3, 4))
        self.assertEqual(turned(star(5), drawing_of([(0, 0), right, down, left, up]))[0], (1, 4, 3, 2))
        self.assertEqual(turned(star(5), drawing_of([(0, 0), up, right, left, down]))[0], (1, 3, 4, 2))
        for four in itertools.permutations((right, up, left, down)):
            row = [1 + four.index(way) for way in (right, up, left, down)]
            at = row.index(1)
            self.assertEqual(turned(star(5), drawing_of([(0, 0), *four]))[0], tuple(row[at:] + row[:at]))

    def test_each_direction(self):
        for seed in range(40):
            chance = random.Random(seed)
            many = chance.randrange(2, 17)
            ways = sorted(chance.sample(range(16), many))
            names = chance.sample(range(1, many + 1), many)
            middle = (chance.randrange(-9, 9), Fraction(chance.randrange(-9, 9), 4))
            spots = [middle] + [None] * many
            for way, name in zip(ways, names):
                far = chance.choice((1, 3, Fraction(1, 7)))
                spots[name] = (middle[0] + far * AROUND[way][0], middle[1] + far * AROUND[way][1])
            at = names.index(1)
            self.assertEqual(turned(star(many + 1), drawing_of(spots))[0], tuple(names[at:] + names[:at]))

    def test_any_webs(self):
        folded = plain = 0
        webs = [web for web in flat_webs() + other_webs()[:80] + [SEVEN, all_tied(9)] if len(web) <= 14]
        for seed, web in enumerate(webs):
            chance = random.Random(seed)
            for wide in (5, 60):
                spots = [(Fraction(x, 2), y) for x in range(wide) for y in range(wide)]
                spots = chance.sample(spots, len(web))
                drawing = drawing_of(spots)
                wrong = [p for p, row in enumerate(web) if one_direction(spots, row, p)]
                if wrong:
                    self.assertEqual(self.taken(Folded, turned, web, drawing).place, wrong[0])
                    folded += 1
                else:
                    told = turned(web, drawing)
                    self.assertEqual(told, web_of_points(spots, pairs_of(web)))
                    self.assertTrue(is_web(told))
                    self.assertEqual(turned(told, drawing), told)
                    plain += 1
                self.assertEqual(drawing, drawing_of(spots))
        self.assertGreater(min(folded, plain), 30)

    def test_forty_places(self):
        points, web = random_flat(103, 40, 10)
        self.assertEqual(turned(web, drawing_of(points)), web)
        points = [(p, p * p) for p in range(40)]
        self.assertEqual(turned(all_tied(40), drawing_of(points)), web_of_points(points, pairs_of(all_tied(40))))

    def test_long_fractions(self):
        chance = random.Random(1)
        spots = [
            tuple(Fraction(chance.randrange(-10 ** 60, 10 ** 60), chance.randrange(1, 10 ** 60)) for _ in "xy")
            for _ in range(9)
        ]
        self.assertEqual(turned(all_tied(9), drawing_of(spots)), web_of_points(spots, pairs_of(all_tied(9))))

    def test_alike(self):
        drawing = drawing_of([(0, 0), (2, 0), (0, 1), (0, 1), (2, 0)])
        self.assertEqual(self.taken(Alike, turned, ring(5), drawing).places, (1, 4))
        # Ahead of Folded, though a lesser place is folded; also where the two are no neighbours.
        drawing = drawing_of([(0, 0), (1, 0), (2, 0), (5, 5), (5, 5)])
        self.assertEqual(self.taken(Alike, turned, star(5), drawing).places, (3, 4))

    def test_folded(self):
        drawing = drawing_of([(0, 0), (1, 0), (2, 0), (0, 5)])
        self.assertEqual(self.taken(Folded, turned, star(4), drawing).place, 0)
        drawing = drawing_of([(0, 0), (4, 4), (2, 2), (0, 5)])
        self.assertEqual(self.taken(Folded, turned, ring(4), drawing).place, 1)
        drawing = drawing_of([(0, 0), (1, 0), (2, 0), (Fraction(3, 2), 0)])
        self.assertEqual(self.taken(Folded, turned, chain(4), drawing).place, 2)

    def test_the_least_folded_place(self):
        # The second and the third are folded alike.
        drawing = drawing_of([(5, 0), (0, 0), (4, 0), (1, 0)])
        self.assertEqual(self.taken(Folded, turned, chain(4), drawing).place, 1)

    def test_straight_on_is_not_folded(self):
        self.assertEqual(turned(chain(3), drawing_of([(0, 0), (1, 1), (2, 2)])), chain(3))
        self.assertEqual(turned(chain(3), drawing_of([(2, 0), (1, 0), (0, 0)])), chain(3))


class TestArea(unittest.TestCase):
    def test_some(self):
        drawing = drawing_of([(0, 0), (1, 0), (0, 1), (Fraction(1, 2), Fraction(1, 3))])
        self.assertEqual(area(drawing, (0, 1, 2)), (1, 1))
        self.assertEqual(area(drawing, (0, 2, 1)), (-1, 1))
        self.assertEqual(area(drawing, (0, 1, 3)), (1, 3))

    def test_no_area(self):
        drawing = drawing_of([(3, 5), (1, -4), (Fraction(1, 7), 2)])
        for row in ((), (0,), (1,), (0, 1), (1, 0), (2, 2), (0, 1, 0, 1), (0, 1, 2, 1), (0, 0, 0)):
            self.assertEqual(area(drawing, row), (0, 1))

    def test_any_rows(self):
        for seed in range(200):
            chance = random.Random(seed)
            many = chance.randrange(3, 9)
            figures = chance.choice((1, 2, 60))
            spots = [
                tuple(Fraction(chance.randrange(-10 ** figures, 10 ** figures), chance.randrange(1, 10 ** figures))
                      for _ in "xy")
                for _ in range(many)
            ]
            row = tuple(chance.randrange(many) for _ in range(chance.randrange(12)))
            due = 0
            for at in range(1, len(row) - 1):
                # The sum of three-cornered parts about the first place.
                due += side(spots[row[0]], spots[row[at]], spots[row[at + 1]])
            drawing = drawing_of(spots)
            self.assertEqual(number(area(drawing, row)), due)
            self.assertEqual(drawing, drawing_of(spots))

    def test_a_place_that_comes_twice(self):
        # Two squares with one corner in common.
        drawing = drawing_of([(0, 0), (1, 0), (1, 1), (0, 1), (-1, 0), (-1, -1), (0, -1)])
        self.assertEqual(area(drawing, (0, 1, 2, 3, 0, 4, 5, 6)), (4, 1))
        self.assertEqual(area(drawing, (0, 1, 2, 3, 0, 6, 5, 4)), (0, 1))


class TestBends(unittest.TestCase):
    def test_some(self):
        square = drawing_of([(0, 0), (2, 0), (2, 2), (0, 2), (1, 1), (1, 0)])
        self.assertIs(bends(square, (0, 1, 2, 3)), True)
        self.assertIs(bends(square, (1, 2, 3, 0)), True)
        self.assertIs(bends(square, (0, 1, 2)), True)
        self.assertIs(bends(square, (3, 2, 1, 0)), False)
        self.assertIs(bends(square, (0, 2, 1, 3)), False)
        # One on the line, one within.
        self.assertIs(bends(square, (0, 5, 1, 2, 3)), False)
        self.assertIs(bends(square, (0, 1, 2, 4)), False)
        self.assertIs(bends(square, (0, 4, 2)), False)
        self.assertIs(bends(square, (0, 5, 1)), False)

    def test_too_few(self):
        drawing = drawing_of([(0, 0), (1, 0), (0, 1)])
        for row in ((), (0,), (2,), (0, 1), (1, 0)):
            self.assertIs(bends(drawing, row), False)

    def test_round_twice(self):
        five = [(0, 0), (4, 0), (4, 2), (2, 4), (0, 2)]
        self.assertIs(bends(drawing_of(five), (0, 1, 2, 3, 4)), True)
        self.assertIs(bends(drawing_of(five), (0, 2, 4, 1, 3)), False)

    def test_each_row_of_a_grid(self):
        spots = [(Fraction(x, 2), y) for x in range(3) for y in range(2)]
        drawing = drawing_of(spots)
        many = 0
        for wide in (3, 4, 5):
            for row in itertools.permutations(range(6), wide):
                due = all(
                    side(spots[row[at]], spots[row[(at + 1) % wide]], spots[r]) > 0
                    for at in range(wide) for r in row if r not in (row[at], row[(at + 1) % wide])
                )
                self.assertIs(bends(drawing, row), due)
                many += due
        self.assertGreater(many, 30)

    def test_places_alike(self):
        self.assertIs(bends(drawing_of([(0, 0), (1, 0), (0, 0)]), (0, 1, 2)), False)
        self.assertIs(bends(drawing_of([(0, 0)] * 3), (0, 1, 2)), False)

    def test_wide(self):
        spots = [(p, p * p) for p in range(40)]
        self.assertIs(bends(drawing_of(spots), tuple(range(40))), True)
        self.assertIs(bends(drawing_of(spots), tuple(range(39, -1, -1))), False)
        spots[20] = (20, 401)
        self.assertIs(bends(drawing_of(spots), tuple(range(40))), False)


if __name__ == "__main__":
    unittest.main()
