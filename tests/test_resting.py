import itertools
import random
import unittest

from restdraw.errors import NoCorners, NoRim, NotFlat, NotTied, NoWeights
from restdraw.pulling import farthest, pull
from restdraw.resting import at_rest
from tests.helper import (
    ANYTHING, BOW, CHAIN, FOUR, SEVEN, TRIANGLE, TWISTED, Refusing, bowl, chain, cycles, drawing_of, faces_of,
    flat_webs, hangs, meet, other_webs, pairs_of, renamed_by, ring, side, spot, star, step_weights, three_cornered,
    three_tied, three_tied_by_groups, web_of_points, wheel,
)

NOUGHT = ((0, 1), (0, 1))
# Four places about a middle one; corners for a rim of three.
RIM = (0, 2, 1)
THREE = ((0, 0), (0, 6), (6, 0))


def rest_webs():
    """Flat, three tied webs of four to fifteen places."""
    webs = [FOUR] + [wheel(many) for many in (4, 5, 9, 15)]
    webs += [three_cornered(many, many) for many in (5, 8, 15)]
    webs += [three_tied(seed, 4 + seed % 12, seed % 7) for seed in range(36)]
    return webs


def some_corners(chance, many):
    """Corners of several sorts that bend strictly to the right."""
    corners = bowl(many, chance.choice((30, 200, 10 ** 6 - 1)))
    at = chance.randrange(many)
    corners = corners[at:] + corners[:at]
    shape = chance.randrange(3)
    if shape == 1:
        return tuple((-x, -y) for x, y in corners)
    if shape == 2:
        return tuple((y, -x) for x, y in corners)
    return corners


def breaks_of(web):
    many = len(web)
    without = [(p,) for p in range(many)] + list(itertools.combinations(range(many), 2))
    return sorted(some for some in without if not hangs(many, pairs_of(web), some))


class TestAtRest(Refusing):
    def test_some(self):
        third = at_rest(FOUR, RIM, THREE, {})
        self.assertEqual(third, drawing_of([(0, 0), (6, 0), (0, 6), (2, 2)]))
        # By weights 1, 2 and 3 of six.
        told = at_rest(FOUR, RIM, THREE, {(3, 1): 2, (3, 2): 3})
        self.assertEqual(told, drawing_of([(0, 0), (6, 0), (0, 6), (2, 3)]))
        self.assertEqual(at_rest(FOUR, RIM, THREE, {(3, 0): 1, (3, 1): 1, (3, 2): 1}), third)
        told = at_rest(FOUR, RIM, ((0, 0), (0, 1), (1, 0)), {})
        self.assertEqual(told[3], ((1, 3), (1, 3)))

    def test_each_face_as_rim(self):
        self.assertEqual(faces_of(FOUR), [(0, 1, 3), (0, 2, 1), (0, 3, 2), (1, 2, 3)])
        for rim in faces_of(FOUR):
            inner = 6 - sum(rim)
            told = at_rest(FOUR, rim, THREE, {})
            self.assertEqual([told[p] for p in rim], [((x, 1), (y, 1)) for x, y in THREE])
            self.assertEqual(told[inner], ((2, 1), (2, 1)))

    def look_over(self, web, rim, corners, weights):
        held = dict(weights)
        told = at_rest(web, rim, corners, weights)
        self.assertIsInstance(told, tuple)
        self.assertEqual(len(told), len(web))
        spots = [spot(point) for point in told]
        self.assertEqual([spots[p] for p in rim], list(corners))
        for p, row in enumerate(web):
            if p not in rim:
                self.assertEqual(pull(web, told, weights, p), NOUGHT)
                for k in (0, 1):
                    self.assertEqual(sum(weights.get((p, q), 1) * (spots[q][k] - spots[p][k]) for q in row), 0)
        for face in faces_of(web):
            if face != rim:
                self.bend_left([spots[p] for p in face])
        for tie, other in itertools.combinations(pairs_of(web), 2):
            self.assertFalse(meet(spots, tie, other))
        self.assertEqual(web_of_points(spots, pairs_of(web)), web)
        self.assertEqual(list(weights.items()), list(held.items()))
        return told

    def bend_left(self, spots):
        for at in range(len(spots)):
            p, q, *others = spots[at:] + spots[:at]
            for r in others:
                self.assertGreater(side(p, q, r), 0)

    def test_webs_of_four_to_fifteen_places(self):
        sizes = set()
        for seed, web in enumerate(rest_webs()):
            chance = random.Random(seed)
            self.assertTrue(three_tied_by_groups(web))
            rims = faces_of(web)
            for rim in [max(rims, key=len)] + chance.sample(rims, 2):
                sizes.add((len(web), len(rim)))
                weights = step_weights(chance, web, rim, chance.choice((0, 3, 7, 10)))
                self.look_over(web, rim, some_corners(chance, len(rim)), weights)
        self.assertEqual({many for many, wide in sizes}, set(range(4, 16)))
        self.assertGreaterEqual({wide for many, wide in sizes}, {3, 4, 5, 6, 7})

    def test_wide_rims(self):
        for many in range(4, 16):
            web = wheel(many)
            rim = [face for face in faces_of(web) if 0 not in face][0]
            self.assertEqual(len(rim), many - 1)
            self.look_over(web, rim, bowl(many - 1), {})

    def test_corners_of_twelve_figures(self):
        far = 10 ** 12 - 1
        web = three_tied(3, 15, 5)
        rim = [face for face in faces_of(web) if len(face) == 3][0]
        corners = ((-far, -far), (1, far), (far, far - 1))
        weights = step_weights(random.Random(1), web, rim, 10)
        self.look_over(web, rim, corners, weights)

    def test_any_other_drawing_pulls_somewhere(self):
        for seed in range(12):
            chance = random.Random(seed)
            web = three_tied(seed, 6 + seed % 9, 5)
            rim = chance.choice(faces_of(web))
            weights = step_weights(chance, web, rim, 5)
            told = at_rest(web, rim, bowl(len(rim)), weights)
            other = list(told)
            for p in chance.sample([p for p in range(len(web)) if p not in rim], 2):
                x, y = spot(told[p])
                other[p] = drawing_of([(x + chance.choice((-1, 1)), y)])[0]
            inner = [p for p in range(len(web)) if p not in rim]
            self.assertTrue([p for p in inner if pull(web, tuple(other), weights, p) != NOUGHT])
            self.assertEqual(farthest(told, tuple(other))[1], (1, 1))

    def test_renamed(self):
        for seed in range(20):
            chance = random.Random(seed)
            web = three_tied(seed, 4 + seed % 12, 4)
            rim = chance.choice(faces_of(web))
            corners = some_corners(chance, len(rim))
            weights = step_weights(chance, web, rim, 6)
            names = tuple(chance.sample(range(len(web)), len(web)))
            told = at_rest(web, rim, corners, weights)
            there = renamed_by(web, names)
            new = [names[p] for p in rim]
            at = new.index(min(new))
            weighed = {(names[p], names[q]): weight for (p, q), weight in weights.items()}
            again = at_rest(there, tuple(new[at:] + new[:at]), corners[at:] + corners[:at], weighed)
            for p in range(len(web)):
                self.assertEqual(again[names[p]], told[p])

    def test_told_alike_again(self):
        weights = {(3, 1): 2}
        told = at_rest(FOUR, RIM, THREE, weights)
        self.assertEqual(at_rest(FOUR, RIM, THREE, weights), told)
        weights[(3, 1)] = 5
        self.assertNotEqual(at_rest(FOUR, RIM, THREE, weights), told)
        del weights[(3, 1)]
        self.assertEqual(at_rest(FOUR, RIM, THREE, weights), at_rest(FOUR, RIM, THREE, {}))

    def test_not_flat(self):
        for web in [TWISTED, SEVEN] + [web for web in other_webs() if len(web) <= 15]:
            for rim, corners, weights in ((faces_of(web)[0], THREE, {}), ((), (), {0: 0})):
                told = self.taken(NotFlat, at_rest, web, rim, corners, weights)
                self.assertEqual(told.faces, len(cycles(web)))

    def test_not_tied(self):
        met = 0
        for web in [web for web in flat_webs() if len(web) <= 15]:
            if not three_tied_by_groups(web):
                rim = faces_of(web)[0]
                for handed in ((rim, bowl(len(rim)), {}), ((), (), {0: 0})):
                    self.assertEqual(self.taken(NotTied, at_rest, web, *handed).breaks, breaks_of(web))
                met += 1
        self.assertGreater(met, 30)

    def test_not_tied_of_few_places(self):
        self.assertEqual(self.taken(NotTied, at_rest, TRIANGLE, (0, 2, 1), THREE, {}).breaks, [])
        self.assertEqual(self.taken(NotTied, at_rest, CHAIN, (0, 1, 2, 1), THREE, {}).breaks, [(1,)])
        self.assertEqual(self.taken(NotTied, at_rest, ring(4), (0, 3, 2, 1), THREE, {}).breaks, [(0, 2), (1, 3)])
        for web in (star(4), BOW):
            self.assertEqual(self.taken(NotTied, at_rest, web, (0, 1, 2), THREE, {}).breaks, breaks_of(web))

    def test_a_list_of_breaks_is_the_askers_own(self):
        told = self.taken(NotTied, at_rest, chain(4), (), (), {})
        held = list(told.breaks)
        told.breaks.clear()
        self.assertEqual(self.taken(NotTied, at_rest, chain(4), (), (), {}).breaks, held)

    def test_no_rim(self):
        wrong = [
            (), (0,), (0, 2), (0, 1, 2), (2, 1, 0), (1, 0, 2), (0, 2, 1, 3), (0, 2, 1, 0), (0, 0, 0), (-1, -2, -3),
            (0, 2, 4), (4, 5, 6), (0, 2, True), (False, 2, 1), (0, 2, None), (0, 2, "1"), ("0", "2", "1"),
            ((0,), (2,), (1,)), ((0, 2, 1),), (0, 2, [1]), (0, 2, {}), (10 ** 5000, 2, 1), (0, 2, -3), (0, -2, 1),
            (0, 2, 1 + 4), (0, 2, object()),
        ]
        for rim in wrong + [(one,) for one in ANYTHING] + [(0, 2, one) for one in ANYTHING if one != 1]:
            self.taken(NoRim, at_rest, FOUR, rim, THREE, {})
            self.taken(NoRim, at_rest, FOUR, rim, (), {0: 0})

    def test_no_rim_of_any_three(self):
        web = three_tied(9, 7, 5)
        faces = faces_of(web)
        for many in (3, 4):
            for rim in itertools.permutations(range(7), many):
                if rim in faces:
                    self.look_over(web, rim, bowl(many), {})
                else:
                    self.taken(NoRim, at_rest, web, rim, bowl(many), {})

    def test_a_truth_in_the_rim(self):
        for face in faces_of(FOUR):
            for at, p in enumerate(face):
                if p in (0, 1):
                    rim = face[:at] + (p == 1,) + face[at + 1:]
                    self.assertEqual(rim, face)
                    self.taken(NoRim, at_rest, FOUR, rim, THREE, {})

    def test_no_corners(self):
        wrong = [
            (), THREE[:1], THREE[:2], THREE + ((-1, -1),), THREE + (THREE[0],), THREE[::-1], THREE[1:],
            ((0, 0), (1, 1), (2, 2)), ((0, 0), (0, 0), (0, 0)), ((0, 0), (0, 6), (0, 6)), ((0, 0), (0, 0), (6, 0)),
            ((0, 0), (0, 6), (0, 0)), ((0, 0), (0, 6), (0, 3)), ((False, 0), (0, 6), (6, 0)),
            ((0, 0), (0, 6), (6, False)), ((0, 0), (0, True), (True, 0)), ([0, 0], [0, 6], [6, 0]), (0, 6, 6),
            ((0, 0), (0, 6), (6, 0, 0)), ((0, 0), (0, 6), (6,)), ((0, 0), (0, 6), ()), ((0, 0), (0, 6), "60"),
            ((0, 0), (0, 6), (6, "0")), ((0, 0), (0, 6), (6, None)), ((0, 0), (0, 6), None),
            ((0, 0), (0, 6), ((6, 1), (0, 1))), (((0, 1), (0, 1)), ((0, 1), (6, 1)), ((6, 1), (0, 1))),
            ((0, 0), (0, 6), {6: 0, 0: 6}), ((0, 0), (0, 6), [6, 0]), ("ab", "cd", "ef"), ((), (), ()),
        ]
        for corners in wrong + [((0, 0), (0, 6), one) for one in ANYTHING]:
            self.taken(NoCorners, at_rest, FOUR, RIM, corners, {})
            self.taken(NoCorners, at_rest, FOUR, RIM, corners, {0: 0})

    def test_no_corners_of_wide_rims(self):
        web = wheel(6)
        rim = [face for face in faces_of(web) if 0 not in face][0]
        good = ((0, 0), (0, 2), (2, 4), (4, 2), (4, 0))
        self.look_over(web, rim, good, {})
        wrong = [
            good[::-1], ((0, 0), (0, 2), (2, 4), (4, 2), (4, 2)), ((0, 0), (0, 2), (0, 4), (4, 2), (4, 0)),
            ((0, 0), (0, 2), (1, 1), (4, 2), (4, 0)), ((2, 0), (0, 2), (2, 4), (4, 2), (3, 2)),
            # A star of five goes to the right at each corner, but round twice.
            tuple(good[2 * k % 5] for k in range(5)), (good[1], good[0]) + good[2:], good[:4], good + ((3, -1),),
            ((0, 0), (0, 2), (2, 4), (4, 2), (0, 0)),
        ]
        for corners in wrong:
            self.taken(NoCorners, at_rest, web, rim, corners, {})

    def test_each_corners_of_a_grid(self):
        spots = list(itertools.product(range(3), repeat=2))
        good = 0
        for corners in itertools.product(spots, repeat=3):
            if side(*corners) < 0:
                self.look_over(FOUR, RIM, corners, {})
                good += 1
            else:
                self.taken(NoCorners, at_rest, FOUR, RIM, corners, {})
        self.assertGreater(good, 200)

    def test_each_four_corners_of_a_grid(self):
        web = wheel(5)
        rim = [face for face in faces_of(web) if 0 not in face][0]
        good = 0
        for corners in itertools.product(itertools.product(range(3), repeat=2), repeat=4):
            around = [corners[at:] + corners[:at] for at in range(4)]
            if all(side(p, q, r) < 0 and side(p, q, s) < 0 for p, q, r, s in around):
                self.assertEqual(len(at_rest(web, rim, corners, {})), 5)
                good += 1
            else:
                self.taken(NoCorners, at_rest, web, rim, corners, {})
        self.assertGreater(good, 100)

    def test_no_weights(self):
        for weight in [0, -1, -10 ** 5000, True, False, None, "1", (1,), (1, 1), [1], {}, 0 - 1000000, b"1", object()]:
            self.taken(NoWeights, at_rest, FOUR, RIM, THREE, {(3, 0): weight})
            self.taken(NoWeights, at_rest, FOUR, RIM, THREE, {(3, 1): 1, (3, 0): weight, (3, 2): 1})
        steps = [
            (0, 3), (0, 1), (1, 3), (2, 3), (3, 3), (3, 4), (4, 3), (-1, 0), (-1, 3), (3, -1), (3, -4), (-4, 3), (3,),
            (3, 0, 1), (), 3, "30", "", None, True, (3, True), (3, False), (True, 3), ("3", "0"), (3, "0"), (3, None),
            ((3, 0),), ((3, 0), 1), frozenset((3, 0)), b"30", (10 ** 5000, 0), (3, 10 ** 5000), 0, 10 ** 5000, object(),
        ]
        for step in steps:
            self.taken(NoWeights, at_rest, FOUR, RIM, THREE, {step: 1})
            self.taken(NoWeights, at_rest, FOUR, RIM, THREE, {step: 1, (3, 0): 1, (3, 2): 5})

    def test_weights_of_each_pair(self):
        web = three_tied(2, 8, 4)
        rim = max(faces_of(web), key=len)
        for p in range(-9, 10):
            for q in range(-9, 10):
                if 0 <= p < 8 and p not in rim and q in web[p]:
                    self.look_over(web, rim, bowl(len(rim)), {(p, q): 1000000})
                else:
                    self.taken(NoWeights, at_rest, web, rim, bowl(len(rim)), {(p, q): 1})

    def test_great_weights_and_corners(self):
        great = 10 ** 400
        corners = ((0, 0), (0, great), (great, 0))
        told = self.look_over(FOUR, RIM, corners, {(3, 1): great})
        self.assertEqual(told[3][1], (great // 2, great // 2 + 1))

    def test_the_first_refusal_that_is_due(self):
        bad = {(0, 3): 0}
        self.taken(NotFlat, at_rest, TWISTED, (), (), bad)
        self.taken(NotTied, at_rest, ring(4), (), (), bad)
        self.taken(NoRim, at_rest, FOUR, (0, 1, 2), THREE[::-1], bad)
        self.taken(NoCorners, at_rest, FOUR, RIM, THREE[::-1], bad)
        self.taken(NoWeights, at_rest, FOUR, RIM, THREE, bad)
        # Not flat, and not three tied either.
        web = ((1, 2, 3), (0, 2, 3), (0, 1, 3), (0, 1, 2, 4), (3,))
        self.assertEqual(self.taken(NotFlat, at_rest, web, (), (), {}).faces, len(cycles(web)))

    def test_what_is_refused_stays(self):
        weights = {(3, 0): 0, "a": [1]}
        self.taken(NoWeights, at_rest, FOUR, RIM, THREE, weights)
        self.assertEqual(weights, {(3, 0): 0, "a": [1]})


if __name__ == "__main__":
    unittest.main()
