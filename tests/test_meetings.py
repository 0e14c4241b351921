import itertools
import random
import unittest
from fractions import Fraction

from restdraw.errors import Alike
from restdraw.meetings import hand, meetings, met
from tests.helper import (
    FOUR, SEVEN, TRIANGLE, Refusing, all_tied, chain, drawing_of, flat_webs, other_webs, pair_of, pairs_of,
    random_flat, ring, side, spot, star, wheel,
)

GRID = [(x, y) for x in range(4) for y in range(3)]


def point(x, y):
    return (pair_of(x), pair_of(y))


def tie_of(one):
    return (point(*one[0]), point(*one[1]))


def share_of(one, at):
    """How far along the tie a spot on its line lies: 0 at the first end, 1 at the last."""
    (a, b), (c, d) = one
    if a != c:
        return Fraction(at[0] - a) / (c - a)
    return Fraction(at[1] - b) / (d - b)


def in_common(one, other):
    """What two straight ties have in common: None, a spot, or "more", reckoned by how far along it lies."""
    (ax, ay), (bx, by) = one
    (cx, cy), (dx, dy) = other
    turn = (bx - ax) * (dy - cy) - (by - ay) * (dx - cx)
    if turn == 0:
        if side(one[0], one[1], other[0]) != 0:
            return None
        low, high = sorted((share_of(one, other[0]), share_of(one, other[1])))
        low, high = max(low, 0), min(high, 1)
        if low == high:
            return (ax + low * (bx - ax), ay + low * (by - ay))
        return "more" if low < high else None
    here = Fraction((cx - ax) * (dy - cy) - (cy - ay) * (dx - cx)) / turn
    there = Fraction((cx - ax) * (by - ay) - (cy - ay) * (bx - ax)) / turn
    if 0 <= here <= 1 and 0 <= there <= 1:
        return (ax + here * (bx - ax), ay + here * (by - ay))
    return None


def met_by_share(one, other):
    """What is to be told of two ties without a common end."""
    found = in_common(one, other)
    if found is None:
        return None
    if found == "more":
        return ("over", None)
    if found in one + other:
        return ("touch", point(*found))
    return ("cross", point(*found))


def meetings_by_share(web, spots):
    told = []
    for tie, other in itertools.combinations(pairs_of(web), 2):
        one, second = [tuple(spots[p] for p in pair) for pair in (tie, other)]
        found = in_common(one, second)
        if found == "more":
            told.append((tie, other, "over", None))
        elif found is None or set(tie) & set(other):
            continue
        elif found in one + second:
            told.append((tie, other, "touch", spots.index(found)))
        else:
            told.append((tie, other, "cross", point(*found)))
    return sorted(told, key=lambda row: row[:2])


class TestHand(unittest.TestCase):
    def test_some(self):
        self.assertEqual(hand(point(0, 0), point(1, 0), point(0, 1)), 1)
        self.assertEqual(hand(point(0, 0), point(1, 0), point(5, -1)), -1)
        self.assertEqual(hand(point(0, 0), point(1, 0), point(7, 0)), 0)
        self.assertEqual(hand(point(0, 0), point(1, 0), point(-7, 0)), 0)
        third = Fraction(1, 3)
        self.assertEqual(hand(point(0, 0), point(1, 1), point(third, third)), 0)
        self.assertEqual(hand(point(0, 0), point(1, 1), point(third, third + Fraction(1, 10 ** 50))), 1)
        self.assertEqual(hand(point(0, 0), point(1, 1), point(third, third - Fraction(1, 10 ** 50))), -1)

    def test_points_that_are_one(self):
        for p, q in itertools.product(GRID, repeat=2):
            self.assertEqual(hand(point(*p), point(*p), point(*q)), 0)
            self.assertEqual(hand(point(*p), point(*q), point(*p)), 0)
            self.assertEqual(hand(point(*p), point(*q), point(*q)), 0)

    def test_each_three(self):
        half = [(Fraction(x, 2) - 1, Fraction(y, 3) - 1) for x, y in GRID]
        for p, q, r in itertools.product(half, repeat=3):
            turn = side(p, q, r)
            self.assertEqual(hand(point(*p), point(*q), point(*r)), (turn > 0) - (turn < 0))

    def test_long_fractions(self):
        chance = random.Random(4)
        for _ in range(300):
            spots = [
                tuple(Fraction(chance.randrange(-10 ** 60, 10 ** 60), chance.randrange(1, 10 ** 60)) for _ in "xy")
                for _ in range(3)
            ]
            if chance.randrange(2):
                share = Fraction(chance.randrange(-5, 9), 7)
                spots[2] = tuple(a + share * (b - a) for a, b in zip(spots[0], spots[1]))
            turn = side(*spots)
            told = hand(*[point(*one) for one in spots])
            self.assertEqual(told, (turn > 0) - (turn < 0))
            self.assertIs(type(told), int)


class TestMet(unittest.TestCase):
    def look(self, one, other, told):
        for first in (one, one[::-1]):
            for second in (other, other[::-1]):
                self.assertEqual(met(tie_of(first), tie_of(second)), told, (first, second))
                self.assertEqual(met(tie_of(second), tie_of(first)), told, (first, second))

    def test_cross(self):
        self.look(((0, 0), (2, 2)), ((0, 2), (2, 0)), ("cross", point(1, 1)))
        self.look(((0, 0), (1, 3)), ((0, 1), (1, 1)), ("cross", point(Fraction(1, 3), 1)))
        self.look(((0, 0), (0, 4)), ((-1, 1), (1, 2)), ("cross", point(0, Fraction(3, 2))))

    def test_touch(self):
        self.look(((0, 0), (4, 0)), ((1, 0), (1, 5)), ("touch", point(1, 0)))
        self.look(((0, 0), (4, 4)), ((3, 3), (9, 0)), ("touch", point(3, 3)))
        self.look(((0, 0), (0, 4)), ((0, 2), (-7, 1)), ("touch", point(0, 2)))

    def test_over(self):
        self.look(((0, 0), (4, 0)), ((1, 0), (5, 0)), ("over", None))
        self.look(((0, 0), (4, 0)), ((1, 0), (2, 0)), ("over", None))
        self.look(((0, 0), (0, 4)), ((0, -1), (0, 5)), ("over", None))
        self.look(((0, 0), (6, 4)), ((3, 2), (9, 6)), ("over", None))

    def test_none(self):
        self.look(((0, 0), (4, 0)), ((0, 1), (4, 1)), None)
        self.look(((0, 0), (4, 0)), ((5, 0), (9, 0)), None)
        self.look(((0, 0), (0, 4)), ((0, 5), (0, 9)), None)
        self.look(((0, 0), (1, 1)), ((3, 3), (2, 2)), None)
        # An end on the other's line, but beyond its ends; lines that cross beyond one of the ties.
        self.look(((0, 0), (4, 0)), ((5, 0), (5, 3)), None)
        self.look(((0, 0), (4, 0)), ((5, -1), (5, 3)), None)
        self.look(((0, 0), (4, 0)), ((1, 1), (2, 3)), None)

    def test_just_beside(self):
        little = Fraction(1, 10 ** 60)
        self.look(((0, 0), (4, 0)), ((1, little), (1, 5)), None)
        self.look(((0, 0), (4, 0)), ((1, -little), (1, 5)), ("cross", point(1, 0)))
        self.look(((0, 0), (4, 0)), ((4 + little, 0), (9, 0)), None)
        self.look(((0, 0), (4, 0)), ((4 - little, 0), (9, 0)), ("over", None))

    def test_each_two_ties_of_a_grid(self):
        seen = {}
        for one in itertools.permutations(GRID, 2):
            for other in itertools.combinations([spot for spot in GRID if spot not in one], 2):
                due = met_by_share(one, other)
                self.assertEqual(met(tie_of(one), tie_of(other)), due, (one, other))
                kind = None if due is None else due[0]
                seen[kind] = seen.get(kind, 0) + 1
        self.assertEqual(set(seen), {None, "cross", "touch", "over"})

    def test_long_fractions(self):
        chance = random.Random(3)
        for _ in range(200):
            spots = [
                tuple(Fraction(chance.randrange(-10 ** 30, 10 ** 30), chance.randrange(1, 10 ** 30)) for _ in "xy")
                for _ in range(3)
            ]
            share = Fraction(chance.randrange(-3, 12), 9)
            spots.append(tuple(a + share * (b - a) for a, b in zip(spots[0], spots[chance.choice((1, 2))])))
            if len(set(spots)) == 4:
                one, other = (spots[0], spots[1]), (spots[2], spots[3])
                told = met(tie_of(one), tie_of(other))
                self.assertEqual(told, met_by_share(one, other))
                if told is not None and told[0] == "cross":
                    spot(told[1])


class TestMeetings(Refusing):
    def test_some(self):
        square = drawing_of([(0, 0), (2, 0), (2, 2), (0, 2)])
        self.assertEqual(meetings(all_tied(4), square), [((0, 2), (1, 3), "cross", point(1, 1))])
        self.assertEqual(meetings(ring(4), square), [])
        self.assertEqual(
            meetings(ring(4), drawing_of([(0, 0), (2, 2), (2, 0), (0, 2)])), [((0, 1), (2, 3), "cross", point(1, 1))]
        )
        self.assertEqual(meetings(TRIANGLE, drawing_of([(0, 0), (1, 0), (0, 1)])), [])

    def test_touch_tells_the_place(self):
        drawing = drawing_of([(0, 0), (4, 0), (2, 5), (2, 0)])
        self.assertEqual(meetings(((1,), (0, 2), (1, 3), (2,)), drawing), [((0, 1), (2, 3), "touch", 3)])
        drawing = drawing_of([(2, 0), (2, 5), (0, 0), (4, 0)])
        self.assertEqual(meetings(chain(4), drawing), [((0, 1), (2, 3), "touch", 0)])

    def test_a_common_end(self):
        # Folded back, one over the other; straight on; at a corner.
        self.assertEqual(meetings(chain(3), drawing_of([(0, 0), (2, 2), (1, 1)])), [((0, 1), (1, 2), "over", None)])
        self.assertEqual(meetings(chain(3), drawing_of([(1, 1), (2, 2), (0, 0)])), [((0, 1), (1, 2), "over", None)])
        self.assertEqual(meetings(chain(3), drawing_of([(0, 0), (1, 1), (2, 2)])), [])
        self.assertEqual(meetings(chain(3), drawing_of([(0, 0), (2, 2), (0, 1)])), [])
        line = drawing_of([(1, 0), (2, 0), (0, 0)])
        self.assertEqual(meetings(TRIANGLE, line), [((0, 1), (1, 2), "over", None), ((0, 2), (1, 2), "over", None)])

    def test_all_on_one_line(self):
        drawing = drawing_of([(0, 0), (1, 2), (2, 4), (3, 6)])
        told = meetings(FOUR, drawing)
        self.assertEqual({kind for tie, other, kind, where in told}, {"over"})
        self.assertEqual(told, meetings_by_share(FOUR, [(0, 0), (1, 2), (2, 4), (3, 6)]))
        self.assertEqual(len(told), 10)

    def look_over(self, web, spots):
        drawing = drawing_of(spots)
        told = meetings(web, drawing)
        self.assertIsInstance(told, list)
        self.assertEqual(told, meetings_by_share(web, spots))
        self.assertEqual(drawing, drawing_of(spots))
        return [kind for tie, other, kind, where in told]

    def test_any_webs(self):
        kinds = []
        webs = [web for web in flat_webs() + other_webs()[:60] + [SEVEN, all_tied(9)] if len(web) <= 14]
        for seed, web in enumerate(webs):
            chance = random.Random(seed)
            for wide in (4, 9):
                grid = [(x, Fraction(y, chance.choice((1, 2)))) for x in range(wide) for y in range(wide)]
                spots = list(dict.fromkeys(chance.sample(grid, len(grid))))[:len(web)]
                kinds += self.look_over(web, spots)
        self.assertGreater(min(kinds.count(kind) for kind in ("cross", "touch", "over")), 100)

    def test_forty_places(self):
        chance = random.Random(40)
        points, web = random_flat(102, 40, 7)
        self.assertEqual(self.look_over(web, points), [])
        chance.shuffle(points)
        self.assertGreater(len(self.look_over(web, points)), 20)
        self.look_over(wheel(40), points)
        self.look_over(star(40), points)

    def test_long_fractions(self):
        chance = random.Random(5)
        web = wheel(8)
        spots = [
            tuple(Fraction(chance.randrange(10 ** 60), chance.randrange(1, 10 ** 60)) for _ in "xy") for _ in web
        ]
        self.look_over(web, spots)

    def test_alike(self):
        drawing = drawing_of([(0, 0), (1, 0), (0, 0)])
        self.assertEqual(self.taken(Alike, meetings, TRIANGLE, drawing).places, (0, 2))
        # Also where the two are no neighbours.
        self.assertEqual(self.taken(Alike, meetings, chain(3), drawing).places, (0, 2))
        self.assertEqual(self.taken(Alike, meetings, TRIANGLE, drawing_of([(0, 0)] * 3)).places, (0, 1))

    def test_the_least_pair(self):
        for spots, pair in (
            ([(3, 3), (1, 1), (2, 2), (2, 2), (1, 1), (0, 0)], (1, 4)),
            ([(3, 3), (1, 1), (2, 2), (2, 2), (1, 1), (3, 3)], (0, 5)),
            ([(3, 3), (1, 1), (2, 2), (4, 4), (2, 2), (2, 2)], (2, 4)),
            ([(3, 3), (1, 1), (2, 2), (4, 4), (5, 5), (5, 5)], (4, 5)),
        ):
            self.assertEqual(self.taken(Alike, meetings, ring(6), drawing_of(spots)).places, pair)

    def test_alike_by_chance(self):
        for seed in range(60):
            chance = random.Random(seed)
            spots = [(chance.randrange(6), Fraction(chance.randrange(6), 3)) for _ in range(12)]
            pairs = [(p, q) for p in range(12) for q in range(p + 1, 12) if spots[p] == spots[q]]
            if pairs:
                told = self.taken(Alike, meetings, wheel(12), drawing_of(spots))
                self.assertEqual(told.places, min(pairs))
            else:
                self.look_over(wheel(12), spots)

    def test_the_list_is_the_askers_own(self):
        drawing = drawing_of([(0, 0), (2, 0), (2, 2), (0, 2)])
        told = meetings(all_tied(4), drawing)
        held = list(told)
        told.clear()
        self.assertEqual(meetings(all_tied(4), drawing), held)


if __name__ == "__main__":
    unittest.main()
