import itertools
import random
import unittest

from restdraw.counting import counted, counts
from restdraw.errors import NoBase, NotCornered, NotFlat, NoWeights, NoWoods
from restdraw.grids import as_points
from restdraw.judging import judged, outer
from restdraw.lands import lands
from restdraw.orders import order_of
from restdraw.woods import woods_of
from tests.helper import (
    FOUR, FOURS, TRIANGLE, TWISTED, Refusing, any_meet, bases_of, cornered_cases, faces_of, lands_plainly, least_first,
    mirrored_plainly, outer_of, outs_plainly, pairs_of, renamed_by, ring, three_cornered, web_of_points, wrong_woods,
)

BASE = (0, 1, 2)


def weights_by(chance, web, base, share):
    """Weights of about that share (of ten) of the faces but the outer one."""
    return {
        face: chance.choice((1, 2, 1000000, chance.randrange(1, 1000001)))
        for face in faces_of(web) if face != outer_of(base) and chance.randrange(10) < share
    }


def weighed_cases(seed, most=40):
    """Webs, bases, woods of any order, and weights: none, of some faces, of all."""
    for web, base, order in cornered_cases(seed, most):
        chance = random.Random(seed + len(web))
        yield web, base, outs_plainly(web, base, order), weights_by(chance, web, base, len(web) % 3 * 5)


def all_counts(web, base, woods, weights):
    return [counts(web, base, woods, weights, p) for p in range(len(web))]


class TestCounts(Refusing):
    def test_some(self):
        self.assertEqual(counts(FOUR, BASE, FOURS, {}, 3), (1, 1, 1))
        weights = {(1, 2, 3): 5, (0, 1, 3): 7}
        self.assertEqual(all_counts(FOUR, BASE, FOURS, weights), [(13, 0, 0), (0, 13, 0), (0, 0, 13), (5, 1, 7)])
        self.assertEqual(counted(FOUR, BASE, FOURS, weights), ((0, 0), (13, 0), (0, 13), (1, 7)))
        self.assertEqual(counted(FOUR, BASE, FOURS, {}), ((0, 0), (3, 0), (0, 3), (1, 1)))

    def test_three_places(self):
        for base in itertools.permutations(range(3)):
            a, b, c = base
            face = least_first(base)
            for weights, whole in (({}, 1), ({face: 9}, 9), ({face: 1000000}, 1000000)):
                self.assertEqual(counts(TRIANGLE, base, ((), (), ()), weights, a), (whole, 0, 0))
                self.assertEqual(counts(TRIANGLE, base, ((), (), ()), weights, b), (0, whole, 0))
                self.assertEqual(counts(TRIANGLE, base, ((), (), ()), weights, c), (0, 0, whole))
                told = counted(TRIANGLE, base, ((), (), ()), weights)
                self.assertEqual([told[p] for p in base], [(0, 0), (whole, 0), (0, whole)])

    def look_over(self, web, base, woods, weights):
        held = dict(weights)
        whole = sum(weights.get(face, 1) for face in faces_of(web) if face != outer_of(base))
        told = all_counts(web, base, woods, weights)
        for p, some in enumerate(told):
            self.assertIsInstance(some, tuple)
            self.assertEqual([type(one) for one in some], [int] * 3)
            self.assertEqual(sum(some), whole)
            if p in base:
                self.assertEqual(some, tuple(whole if corner == p else 0 for corner in base))
            else:
                self.assertGreaterEqual(min(some), 1)
                due = [sum(weights.get(face, 1) for face in land) for land in lands_plainly(web, base, woods, p)]
                self.assertEqual(list(some), due)
        points = counted(web, base, woods, weights)
        self.assertIsInstance(points, tuple)
        self.assertEqual(points, tuple((second, third) for first, second, third in told))
        self.assertEqual(list(weights.items()), list(held.items()))
        return points

    def test_three_to_forty_places(self):
        for seed in (60, 61):
            for web, base, woods, weights in weighed_cases(seed):
                points = self.look_over(web, base, woods, weights)
                self.assertIsNone(judged(web, as_points(points)))
                self.assertEqual(outer(web, as_points(points)), outer_of(base))

    def test_looked_at_in_other_words(self):
        for web, base, woods, weights in weighed_cases(62, 20):
            points = counted(web, base, woods, weights)
            self.assertFalse(any_meet(points, pairs_of(web)))
            self.assertEqual(web_of_points(points, pairs_of(web)), web)

    def test_each_base(self):
        web = three_cornered(63, 9)
        for base in bases_of(web):
            woods = outs_plainly(web, base, order_of(web, base))
            for share in (0, 5, 10):
                weights = weights_by(random.Random(share), web, base, share)
                points = self.look_over(web, base, woods, weights)
                self.assertIsNone(judged(web, as_points(points)))
                self.assertEqual(outer(web, as_points(points)), outer_of(base))

    def test_one_great_weight(self):
        web = three_cornered(64, 12)
        base = bases_of(web)[7]
        woods = outs_plainly(web, base, order_of(web, base))
        for face in faces_of(web):
            if face != outer_of(base):
                points = self.look_over(web, base, woods, {face: 1000000})
                self.assertIsNone(judged(web, as_points(points)))
                self.look_over(web, base, woods, {face: 10 ** 5000})

    def test_weights_that_are_all_one(self):
        web = three_cornered(65, 15)
        base = bases_of(web)[3]
        woods = outs_plainly(web, base, order_of(web, base))
        ones = {face: 1 for face in faces_of(web) if face != outer_of(base)}
        self.assertEqual(counted(web, base, woods, ones), counted(web, base, woods, {}))

    def test_weights_of_two_dicts_put_together(self):
        for web, base, woods, weights in weighed_cases(66, 24):
            other = weights_by(random.Random(1), web, base, 6)
            both = {
                face: weights.get(face, 1) + other.get(face, 1) for face in faces_of(web) if face != outer_of(base)
            }
            for p in range(len(web)):
                one, second = counts(web, base, woods, weights, p), counts(web, base, woods, other, p)
                self.assertEqual(counts(web, base, woods, both, p), tuple(x + y for x, y in zip(one, second)))

    def test_renamed(self):
        for web, base, woods, weights in weighed_cases(67):
            names = random.Random(len(web)).sample(range(len(web)), len(web))
            rows = [()] * len(web)
            for p, row in enumerate(woods):
                rows[names[p]] = tuple(names[q] for q in row)
            weighed = {least_first([names[p] for p in face]): weight for face, weight in weights.items()}
            told = counted(renamed_by(web, names), tuple(names[p] for p in base), tuple(rows), weighed)
            self.assertEqual(tuple(told[names[p]] for p in range(len(web))), counted(web, base, woods, weights))

    def test_mirrored(self):
        for web, base, woods, weights in weighed_cases(68, 20):
            a, b, c = base
            there = mirrored_plainly(web), (b, a, c), tuple(row[1::-1] + row[2:] for row in woods)
            weighed = {least_first(face[::-1]): weight for face, weight in weights.items()}
            for p in range(len(web)):
                first, second, third = counts(web, base, woods, weights, p)
                self.assertEqual(counts(*there, weighed, p), (second, first, third))

    def test_the_corners_told_about(self):
        for web, base, woods, weights in weighed_cases(69, 20):
            a, b, c = base
            about = tuple(row[1:] + row[:1] for row in woods)
            for p in range(len(web)):
                first, second, third = counts(web, base, woods, weights, p)
                self.assertEqual(counts(web, (b, c, a), about, weights, p), (second, third, first))

    def test_told_alike_again(self):
        weights = {(1, 2, 3): 5}
        told = counted(FOUR, BASE, FOURS, weights)
        self.assertEqual(counted(FOUR, BASE, FOURS, weights), told)
        weights[(1, 2, 3)] = 6
        self.assertNotEqual(counted(FOUR, BASE, FOURS, weights), told)
        del weights[(1, 2, 3)]
        self.assertEqual(counted(FOUR, BASE, FOURS, weights), counted(FOUR, BASE, FOURS, {}))
        # A list of lands that is changed has no bearing on counts.
        for land in lands(FOUR, BASE, FOURS, 3):
            land.clear()
        self.assertEqual(counts(FOUR, BASE, FOURS, {}, 3), (1, 1, 1))


class TestRefused(Refusing):
    def refused_weights(self, web, base, woods, weights):
        held = dict(weights)
        self.taken(NoWeights, counted, web, base, woods, weights)
        for p in range(len(web)):
            self.taken(NoWeights, counts, web, base, woods, weights, p)
        self.assertEqual(list(weights.items()), list(held.items()))

    def test_no_weights(self):
        for weight in (0, -1, -1000000, -10 ** 5000, True, False, None, "1", (1,), [1], {}, b"1", object()):
            self.refused_weights(FOUR, BASE, FOURS, {(0, 1, 3): weight})
            self.refused_weights(FOUR, BASE, FOURS, {(1, 2, 3): 1, (0, 1, 3): weight, (0, 3, 2): 4})
        wrong = [
            # The outer one, ones told from another step, or backwards.
            (0, 2, 1), (2, 1, 0), (1, 3, 0), (3, 0, 1), (0, 3, 1), (1, 3, 2), (3, 1, 2), (0, 1, 2),
            (0, 1), (0,), (), (0, 1, 3, 0), (0, 1, 3, 2), 0, 1, None, "013", True, (0, 1, "3"), ("0", "1", "3"),
            (0, True, 3), (False, 1, 3), (True, 2, 3), (0, 1, None), ((0, 1, 3),), (0, 1, -1), (-4, 1, 3), (0, 0, 0),
            (0, 1, 4), (4, 5, 6), (10 ** 5000, 1, 3), frozenset((0, 1, 3)), object(), b"013",
        ]
        for face in wrong:
            self.refused_weights(FOUR, BASE, FOURS, {face: 1})
            # The wrong one first: to a dict (True, 2, 3) and (1, 2, 3) are one, and it keeps the first.
            self.refused_weights(FOUR, BASE, FOURS, {face: 5, (1, 2, 3): 1, (0, 3, 2): 4})

    def test_each_row_of_three(self):
        web = three_cornered(70, 8)
        base = bases_of(web)[4]
        woods = outs_plainly(web, base, order_of(web, base))
        good = 0
        for face in itertools.product(range(-1, 9), repeat=3):
            if face in faces_of(web) and face != outer_of(base):
                self.assertEqual(len(counted(web, base, woods, {face: 3})), 8)
                good += 1
            else:
                self.taken(NoWeights, counted, web, base, woods, {face: 3})
        self.assertEqual(good, 11)

    def test_three_places(self):
        for base in itertools.permutations(range(3)):
            self.taken(NoWeights, counted, TRIANGLE, base, ((), (), ()), {outer_of(base): 1})

    def test_no_woods(self):
        for web in (TRIANGLE, FOUR, three_cornered(9, 9)):
            base = bases_of(web)[1]
            for thing in wrong_woods(web, base, woods_of(web, base, order_of(web, base))):
                for weights in ({}, {0: 0}):
                    self.taken(NoWoods, counted, web, base, thing, weights)
                    self.taken(NoWoods, counts, web, base, thing, weights, 0)

    def test_refused_webs_and_bases(self):
        self.refuse_webs_and_bases([
            lambda web, base: counts(web, base, (), {0: 0}, 2), lambda web, base: counted(web, base, (), {0: 0}),
            lambda web, base: counts(web, base, FOURS, {}, 1), lambda web, base: counted(web, base, FOURS, {}),
        ])

    def test_the_first_refusal_that_is_due(self):
        for ask in (counted, lambda *handed: counts(*handed, 0)):
            self.taken(NotFlat, ask, TWISTED, (), (), {0: 0})
            self.taken(NotCornered, ask, ring(4), (), (), {0: 0})
            self.taken(NoBase, ask, FOUR, (), (), {0: 0})
            self.taken(NoWoods, ask, FOUR, BASE, (), {0: 0})
            self.taken(NoWeights, ask, FOUR, BASE, FOURS, {0: 0})

    def test_what_is_handed_in_stays(self):
        web = three_cornered(8, 20)
        base = bases_of(web)[5]
        woods = woods_of(web, base, order_of(web, base))
        counted(web, base, woods, {})
        self.assertEqual((web, base), (three_cornered(8, 20), bases_of(web)[5]))
        self.assertEqual(woods, outs_plainly(web, base, order_of(web, base)))


if __name__ == "__main__":
    unittest.main()
