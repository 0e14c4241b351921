import random
import unittest
from fractions import Fraction

from restdraw.judging import judged, outer
from restdraw.meetings import meetings
from restdraw.resting import at_rest
from restdraw.turnings import area
from tests.helper import (
    BOW, CHAIN, FOUR, TRIANGLE, TWISTED, all_tied, bowl, chain, drawing_of, faces_of, flat_webs, number, other_webs,
    pair_of, pairs_of, random_flat, ring, star, three_tied, web_of_points, wheel,
)


def mirror(spots):
    return [(-x, y) for x, y in spots]


def outermost(spots, web):
    """The face at the right hand of the first step, to the left, from the lowest place: nothing lies beneath it."""
    low = min(range(len(web)), key=lambda p: (spots[p][1], spots[p][0]))
    row = web_of_points(spots, pairs_of(web))[low]

    def slope(q):
        x, y = spots[q][0] - spots[low][0], spots[q][1] - spots[low][1]
        return (0, Fraction(0)) if y == 0 else (1, -Fraction(x) / y)

    first = min(row, key=slope)
    for face in faces_of(web):
        steps = list(zip(face, face[1:] + face[:1]))
        if (first, low) in steps:
            return face
    return None


class TestJudged(unittest.TestCase):
    def test_none(self):
        self.assertIsNone(judged(TRIANGLE, drawing_of([(0, 0), (1, 0), (0, 1)])))
        self.assertIsNone(judged(TRIANGLE, drawing_of([(0, 0), (0, 1), (1, 0)])))
        self.assertIsNone(judged(FOUR, drawing_of([(0, 0), (6, 0), (0, 6), (2, 2)])))
        self.assertIsNone(judged(CHAIN, drawing_of([(0, 0), (1, 1), (2, 2)])))

    def test_alike(self):
        self.assertEqual(judged(TRIANGLE, drawing_of([(0, 0), (1, 0), (0, 0)])), ("alike", (0, 2)))
        self.assertEqual(judged(chain(4), drawing_of([(0, 0), (1, 0), (0, 0), (1, 0)])), ("alike", (0, 2)))
        self.assertEqual(judged(star(4), drawing_of([(0, 0), (1, 0), (2, 0), (2, 0)])), ("alike", (2, 3)))

    def test_meet(self):
        square = [(0, 0), (2, 2), (2, 0), (0, 2)]
        one = ((1, 1), (1, 1))
        self.assertEqual(judged(ring(4), drawing_of(square)), ("meet", ((0, 1), (2, 3), "cross", one)))
        self.assertEqual(judged(star(4), drawing_of([(0, 0), (1, 0), (2, 0), (0, 2)])), (
            "meet", ((0, 1), (0, 2), "over", None)))
        self.assertEqual(judged(chain(4), drawing_of([(2, 0), (2, 5), (0, 0), (4, 0)])), (
            "meet", ((0, 1), (2, 3), "touch", 0)))

    def test_turn(self):
        spots = [(0, 0), (6, 0), (0, 6), (2, 2)]
        self.assertEqual(judged(FOUR, drawing_of(mirror(spots))), ("turn", 0))
        self.assertEqual(judged(TWISTED, drawing_of(spots)), ("turn", 0))
        # Only the last one stands otherwise.
        web = FOUR[:3] + ((0, 2, 1),)
        self.assertEqual(judged(web, drawing_of(spots)), ("turn", 3))

    def test_flat_webs_as_they_are_drawn(self):
        for seed in range(60):
            points, web = random_flat(seed, 3 + seed % 14, seed % 11)
            self.assertIsNone(judged(web, drawing_of(points)))
            there = judged(web, drawing_of(mirror(points)))
            wide = [p for p, row in enumerate(web) if len(row) > 2]
            self.assertEqual(there, ("turn", wide[0]) if wide else None)

    def test_forty_places(self):
        for seed, share in ((100, 0), (101, 3), (102, 7), (103, 10)):
            points, web = random_flat(seed, 40, share)
            self.assertIsNone(judged(web, drawing_of(points)))
            self.assertEqual(outer(web, drawing_of(points)), outermost(points, web))

    def test_the_first_one_that_is_due(self):
        seen = {}
        webs = [web for web in flat_webs() + other_webs()[:60] + [all_tied(6)] if len(web) <= 10]
        for seed, web in enumerate(webs * 3):
            chance = random.Random(seed)
            spots = [(chance.randrange(12), Fraction(chance.randrange(12), 2)) for _ in web]
            if seed % 3 == 0:
                points, web = random_flat(seed, 4 + seed % 5, 6)
                rows = [row if chance.randrange(3) else tuple(row[:1] + row[:0:-1]) for row in web]
                web, spots = tuple(rows), points
            told = judged(web, drawing_of(spots))
            self.assertEqual(told, self.due(web, spots))
            kind = None if told is None else told[0]
            seen[kind] = seen.get(kind, 0) + 1
        self.assertEqual(set(seen), {"alike", "meet", "turn", None})
        self.assertGreater(min(seen.values()), 5, seen)

    def due(self, web, spots):
        pairs = [(p, q) for p in range(len(web)) for q in range(p + 1, len(web)) if spots[p] == spots[q]]
        if pairs:
            return ("alike", min(pairs))
        found = meetings(web, drawing_of(spots))
        if found:
            return ("meet", found[0])
        rows = web_of_points(spots, pairs_of(web))
        wrong = [p for p, row in enumerate(web) if row != rows[p]]
        return ("turn", wrong[0]) if wrong else None

    def test_what_is_handed_in_stays(self):
        points, web = random_flat(5, 9, 6)
        drawing = drawing_of(points)
        judged(web, drawing)
        outer(web, drawing)
        self.assertEqual((drawing, web), (drawing_of(points), random_flat(5, 9, 6)[1]))


class TestAtRest(unittest.TestCase):
    def test_any_rim(self):
        for seed in range(24):
            chance = random.Random(seed)
            web = three_tied(seed, 4 + seed % 12, seed % 8)
            for rim in chance.sample(faces_of(web), 3):
                weights = {
                    (p, q): chance.randrange(1, 1000001)
                    for p, row in enumerate(web) for q in row if p not in rim and chance.randrange(2)
                }
                drawing = at_rest(web, rim, bowl(len(rim)), weights)
                self.assertIsNone(judged(web, drawing))
                self.assertEqual(outer(web, drawing), rim)
                self.assertEqual(sum(number(area(drawing, face)) for face in faces_of(web)), 0)

    def test_turned_about(self):
        web = three_tied(5, 9, 5)
        rim = faces_of(web)[0]
        drawing = at_rest(web, rim, bowl(len(rim)), {})
        there = tuple((pair_of(-Fraction(*x)), y) for x, y in drawing)
        self.assertEqual(judged(web, there), ("turn", 0))


class TestOuter(unittest.TestCase):
    def test_some(self):
        self.assertEqual(outer(TRIANGLE, drawing_of([(0, 0), (1, 0), (0, 1)])), (0, 2, 1))
        self.assertEqual(outer(TRIANGLE, drawing_of([(0, 0), (0, 1), (1, 0)])), (0, 1, 2))
        self.assertEqual(outer(FOUR, drawing_of([(0, 0), (6, 0), (0, 6), (2, 2)])), (0, 2, 1))

    def test_one_face_alone(self):
        self.assertEqual(outer(CHAIN, drawing_of([(0, 0), (1, 1), (2, 2)])), (0, 1, 2, 1))
        self.assertEqual(outer(CHAIN, drawing_of([(0, 0), (1, 0), (0, 1)])), (0, 1, 2, 1))
        spots = [(0, 0), (1, 0), (0, 1), (-1, 0)]
        self.assertEqual(outer(star(4), drawing_of(spots)), faces_of(star(4))[0])

    def test_a_place_that_comes_twice(self):
        spots = [(0, 0), (2, 0), (1, 1), (-1, 1), (-2, 0)]
        self.assertIsNone(judged(BOW, drawing_of(spots)))
        self.assertEqual(outer(BOW, drawing_of(spots)), (0, 2, 1, 0, 4, 3))
        self.assertIn((0, 2, 1, 0, 4, 3), faces_of(BOW))

    def test_flat_webs_as_they_are_drawn(self):
        for seed in range(80):
            points, web = random_flat(seed, 3 + seed % 14, seed % 11)
            drawing = drawing_of(points)
            told = outer(web, drawing)
            self.assertEqual(told, outermost(points, web))
            areas = {face: number(area(drawing, face)) for face in faces_of(web)}
            self.assertEqual(sum(areas.values()), 0)
            below = [face for face, wide in areas.items() if wide < 0]
            self.assertEqual(below, [told] if len(areas) > 1 else [])

    def test_wheels(self):
        for many in (4, 5, 9, 40):
            wall = [(x, x * x) for x in range(1, many)]
            middle = (Fraction(sum(x for x, y in wall), many - 1), Fraction(sum(y for x, y in wall), many - 1))
            drawing = drawing_of([middle] + wall)
            self.assertIsNone(judged(wheel(many), drawing))
            self.assertEqual(outer(wheel(many), drawing), (1,) + tuple(range(many - 1, 1, -1)))


if __name__ == "__main__":
    unittest.main()
