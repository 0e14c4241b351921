import itertools
import random
import unittest

from restdraw.changes import moved
from restdraw.errors import Doubled, NoCorners, NoFace, NoRim, NotFlat, NotTied, NoWeights
from restdraw.puttingin import put_in
from restdraw.resting import at_rest
from tests.helper import (
    CHAIN, FOUR, SEVEN, TRIANGLE, TWISTED, Refusing, bowl, cycles, drawing_of, faces_of, flat_webs, least_first,
    other_webs, pairs_of, renamed_by, ring, spot, star, step_weights, three_cornered, three_tied,
    three_tied_by_groups, wheel,
)

NOUGHT = ((0, 1), (0, 1))
# A square within a square, the inner one 4, 5, 6, 7, each place tied to the one beside it.
CUBE = ((1, 4, 3), (0, 2, 5), (1, 3, 6), (0, 7, 2), (0, 5, 7), (1, 6, 4), (2, 7, 5), (3, 4, 6))
RIM = (0, 3, 2, 1)
SQUARE = ((0, 0), (0, 6), (6, 6), (6, 0))


def steps_round(face):
    return list(zip(face, face[1:] + face[:1]))


def free_steps(web, rim):
    """Two steps each, round a face other than the rim, between which a tie can be put in."""
    for face in faces_of(web):
        if face != rim:
            for step, other in itertools.permutations(steps_round(face), 2):
                if other[0] not in web[step[0]]:
                    yield step, other


def with_tie(web, step, other):
    """The tie put in, straight as the words go."""
    rows = [list(row) for row in web]
    for (p, v), (q, w) in ((step, other), (other, step)):
        rows[p].insert(rows[p].index(v) + 1, q)
    return tuple(least_first(row) for row in rows)


def move_webs():
    """Flat, three tied webs of five to fifteen places with wide faces."""
    webs = [CUBE] + [wheel(many) for many in (5, 6, 9, 15)]
    return webs + [three_tied(seed, 5 + seed % 11, seed % 4) for seed in range(44)]


class TestMoved(Refusing):
    def test_some(self):
        self.assertEqual(faces_of(CUBE), [(0, 1, 5, 4), RIM, (0, 4, 7, 3), (1, 2, 6, 5), (2, 3, 7, 6), (4, 5, 6, 7)])
        still = drawing_of([(0, 0), (6, 0), (6, 6), (0, 6), (2, 2), (4, 2), (4, 4), (2, 4)])
        self.assertEqual(at_rest(CUBE, RIM, SQUARE, {}), still)
        # A tie straight between 4 and 6 pulls both towards one another.
        told = moved(CUBE, RIM, SQUARE, {}, (4, 5), (6, 7))
        self.assertIsInstance(told, list)
        self.assertEqual(told, [
            NOUGHT, NOUGHT, NOUGHT, NOUGHT, ((2, 5), (2, 5)), ((0, 1), (0, 1)), ((-2, 5), (-2, 5)), ((0, 1), (0, 1)),
        ])
        self.assertEqual(moved(CUBE, RIM, SQUARE, {}, (6, 7), (4, 5)), told)

    def look_over(self, web, rim, corners, weights, step, other):
        held = dict(weights)
        told = moved(web, rim, corners, weights, step, other)
        self.assertIsInstance(told, list)
        self.assertEqual(len(told), len(web))
        full = with_tie(web, step, other)
        self.assertEqual(put_in(web, step, other), full)
        without, tied = at_rest(web, rim, corners, weights), at_rest(full, rim, corners, weights)
        # The new steps have weight 1, told or not.
        new = {pair: 1 for pair in ((step[0], other[0]), (other[0], step[0])) if pair[0] not in rim}
        self.assertEqual(at_rest(full, rim, corners, {**weights, **new}), tied)
        for p, by in enumerate(told):
            (x, y), (right, up), (there, above) = spot(without[p]), spot(by), spot(tied[p])
            self.assertEqual((x + right, y + up), (there, above))
            if p in rim:
                self.assertEqual(by, NOUGHT)
        self.assertTrue([by for by in told if by != NOUGHT] or without == tied)
        self.assertEqual(list(weights.items()), list(held.items()))

    def test_webs_of_five_to_fifteen_places(self):
        sizes = set()
        for seed, web in enumerate(move_webs()):
            chance = random.Random(seed)
            for rim in chance.sample(faces_of(web), 3):
                free = list(free_steps(web, rim))
                for step, other in chance.sample(free, min(3, len(free))):
                    weights = step_weights(chance, web, rim, chance.choice((0, 4, 10)))
                    self.look_over(web, rim, bowl(len(rim), chance.choice((40, 10 ** 6 - 1))), weights, step, other)
                    sizes.add(len(web))
        self.assertGreaterEqual(sizes, set(range(6, 16)))

    def test_each_two_steps(self):
        met = {True: 0, False: 0}
        for web, rim in ((CUBE, RIM), (wheel(6), (1, 5, 4, 3, 2)), (wheel(6), (0, 1, 2))):
            free = list(free_steps(web, rim))
            steps = [(p, q) for p, row in enumerate(web) for q in row]
            for step, other in itertools.product(steps, repeat=2):
                if (step, other) in free:
                    self.look_over(web, rim, bowl(len(rim), 30), {}, step, other)
                    met[True] += 1
                    continue
                met[False] += 1
                around = [face for face in faces_of(web) if face != rim and step in steps_round(face)]
                if around and other in steps_round(around[0]):
                    tie = tuple(sorted((step[0], other[0])))
                    self.assertEqual(self.refused(Doubled, web, rim, {}, step, other).tie, tie)
                else:
                    self.refused(NoFace, web, rim, {}, step, other)
        self.assertGreater(min(met.values()), 20)

    def refused(self, kind, web, rim, weights, step, other):
        return self.taken(kind, moved, web, rim, bowl(len(rim), 30), weights, step, other)

    def test_a_place_of_the_rim_tied(self):
        # The tie leads from a corner of the rim to an inner place.
        told = moved(CUBE, RIM, SQUARE, {}, (0, 1), (5, 4))
        self.assertEqual(told[:4], [NOUGHT] * 4)
        self.assertNotEqual(told[5], NOUGHT)
        self.look_over(CUBE, RIM, SQUARE, {(5, 1): 7}, (0, 1), (5, 4))
        self.look_over(CUBE, RIM, SQUARE, {(5, 4): 1000000}, (5, 4), (0, 1))

    def test_renamed(self):
        for seed in range(20):
            chance = random.Random(seed)
            web = three_tied(seed, 6 + seed % 10, 2)
            rim = chance.choice(faces_of(web))
            free = list(free_steps(web, rim))
            if free:
                (p, v), (q, w) = chance.choice(free)
                corners = bowl(len(rim), 50)
                names = chance.sample(range(len(web)), len(web))
                new = [names[r] for r in rim]
                at = new.index(min(new))
                told = moved(
                    renamed_by(web, names), tuple(new[at:] + new[:at]), corners[at:] + corners[:at], {},
                    (names[p], names[v]), (names[q], names[w]),
                )
                due = moved(web, rim, corners, {}, (p, v), (q, w))
                self.assertEqual([told[names[r]] for r in range(len(web))], due)

    def test_the_list_is_the_askers_own(self):
        told = moved(CUBE, RIM, SQUARE, {}, (4, 5), (6, 7))
        held = list(told)
        told.clear()
        self.assertEqual(moved(CUBE, RIM, SQUARE, {}, (4, 5), (6, 7)), held)


class TestRefused(Refusing):
    def test_not_flat(self):
        for web in [TWISTED, SEVEN] + [web for web in other_webs() if len(web) <= 15][:40]:
            for handed in (((), (), {0: 0}, (0, 0), (0, 0)), (faces_of(web)[0], SQUARE, {}, (0, 1), (2, 3))):
                self.assertEqual(self.taken(NotFlat, moved, web, *handed).faces, len(cycles(web)))

    def test_not_tied(self):
        met = 0
        for web in [web for web in flat_webs() if len(web) <= 15]:
            if not three_tied_by_groups(web):
                rim = faces_of(web)[0]
                for handed in (((), (), {0: 0}, (0, 0), (0, 0)), (rim, bowl(len(rim)), {}, (0, 1), (2, 3))):
                    self.taken(NotTied, moved, web, *handed)
                met += 1
        self.assertGreater(met, 30)
        # A web that the tie would make three tied is none ahead of it.
        web = ring(4)
        self.assertEqual(self.taken(NotTied, moved, web, RIM, SQUARE, {}, (0, 1), (2, 3)).breaks, [(0, 2), (1, 3)])
        self.assertEqual(self.taken(NotTied, moved, TRIANGLE, (0, 2, 1), (), {}, (0, 1), (1, 2)).breaks, [])
        self.assertEqual(self.taken(NotTied, moved, CHAIN, (0, 1, 2, 1), (), {}, (0, 1), (2, 1)).breaks, [(1,)])
        self.taken(NotTied, moved, star(5), (), (), {}, (1, 0), (2, 0))

    def test_no_rim(self):
        for rim in [(), (0,), RIM[::-1], RIM[1:] + RIM[:1], (False,) + RIM[1:], RIM[:3] + (True,), (RIM,), (0, 1, 2)]:
            for step, other in (((4, 5), (6, 7)), ((0, 0), (0, 0))):
                for weights in ({}, {0: 0}):
                    self.taken(NoRim, moved, CUBE, rim, SQUARE, weights, step, other)

    def test_no_corners(self):
        straight = ((0, 0), (0, 6), (0, 7), (6, 0))
        wrong = [(), SQUARE[:3], SQUARE[::-1], ((False, 0),) + SQUARE[1:], straight, (1, 2, 3, 4)]
        for corners in wrong:
            for step, other in (((4, 5), (6, 7)), ((0, 0), (0, 0))):
                for weights in ({}, {0: 0}):
                    self.taken(NoCorners, moved, CUBE, RIM, corners, weights, step, other)

    def test_no_weights(self):
        wrong = [
            {(4, 5): 0}, {(4, 5): -1}, {(4, 5): True}, {(4, 5): "1"}, {(0, 4): 1}, {(4, 4): 1}, {(4,): 1}, {"45": 1},
            # Of the tie to come, either way: it is none of the web.
            {(4, 6): 1}, {(6, 4): 1}, {(4, 6): 2, (6, 4): 2}, {(-4, 5): 1}, {(4, 2): 3},
        ]
        for weights in wrong:
            for step, other in (((4, 5), (6, 7)), ((0, 0), (0, 0)), ((4, 5), (4, 5)), ((0, 3), (2, 1))):
                self.taken(NoWeights, moved, CUBE, RIM, SQUARE, weights, step, other)

    def test_no_face(self):
        wrong = [
            # No steps.
            ((4, 4), (6, 7)), ((4, 5), (6, 6)), ((4, 6), (6, 4)), ((8, 5), (6, 7)), ((4, 5), (8, 7)), ((-4, 5), (6, 7)),
            ((4, -3), (6, 7)), ((4, 5), (-2, 7)), ((4, 5), (6, -1)), ((-8, -5), (0, 3)), ((10 ** 5000, 5), (6, 7)),
            ((4, 5), (6, 10 ** 5000)), ((0, 2), (1, 3)), ((0, 0), (0, 0)),
            # Round unlike faces.
            ((4, 5), (7, 6)), ((5, 4), (6, 7)), ((4, 5), (5, 4)), ((4, 5), (0, 1)), ((4, 7), (6, 5)), ((0, 1), (2, 3)),
            # Round the rim, also where a tie would be doubled.
            ((0, 3), (2, 1)), ((2, 1), (0, 3)), ((3, 2), (1, 0)), ((0, 3), (3, 2)), ((0, 3), (0, 3)), ((1, 0), (0, 3)),
            # One of them round the rim.
            ((0, 3), (4, 5)), ((4, 5), (0, 3)), ((0, 3), (9, 9)), ((9, 9), (0, 3)), ((0, 3), (0, 4)), ((0, 4), (0, 3)),
        ]
        for step, other in wrong:
            self.taken(NoFace, moved, CUBE, RIM, SQUARE, {}, step, other)
            self.taken(NoFace, moved, CUBE, RIM, SQUARE, {(4, 5): 3}, step, other)

    def test_doubled(self):
        for step, other, tie in (
            ((4, 5), (5, 6), (4, 5)), ((5, 6), (4, 5), (4, 5)), ((7, 4), (4, 5), (4, 7)), ((4, 5), (4, 5), (4, 4)),
            ((0, 1), (1, 5), (0, 1)), ((1, 5), (0, 1), (0, 1)), ((0, 1), (0, 1), (0, 0)),
        ):
            self.assertEqual(self.taken(Doubled, moved, CUBE, RIM, SQUARE, {}, step, other).tie, tie)
        # Faces of three places have no room for a tie; here any two steps round one are refused.
        web = three_cornered(3, 9)
        for face in faces_of(web)[1:]:
            for step, other in itertools.product(steps_round(face), repeat=2):
                self.taken(Doubled, moved, web, faces_of(web)[0], bowl(3), {}, step, other)

    def test_the_first_refusal_that_is_due(self):
        rims = [(NoRim, ()), (NoRim, RIM[::-1]), (None, RIM)]
        corners = [(NoCorners, ()), (NoCorners, SQUARE[::-1]), (None, SQUARE)]
        weights = [(NoWeights, {0: 0}), (NoWeights, {(4, 6): 1}), (None, {}), (None, {(4, 5): 2})]
        steps = [
            (NoFace, ((0, 0), (1, 1))), (NoFace, ((0, 3), (3, 2))), (NoFace, ((4, 5), (0, 1))),
            (Doubled, ((4, 5), (5, 6))), (None, ((4, 5), (6, 7))),
        ]
        for some in itertools.product(rims, corners, weights, steps):
            due = [kind for kind, handed in some if kind is not None]
            rim, points, weighed, pair = [handed for kind, handed in some]
            if due:
                self.taken(due[0], moved, CUBE, rim, points, weighed, *pair)
            else:
                self.assertEqual(len(moved(CUBE, rim, points, weighed, *pair)), 8)
            self.taken(NotFlat, moved, TWISTED, rim, points, weighed, *pair)
            self.taken(NotTied, moved, ring(4), rim, points, weighed, *pair)

    def test_what_is_handed_in_stays(self):
        weights = {(4, 5): 3, (6, 7): 9}
        moved(CUBE, RIM, SQUARE, weights, (4, 5), (6, 7))
        self.assertEqual(weights, {(4, 5): 3, (6, 7): 9})
        self.assertEqual(pairs_of(CUBE)[-1], (6, 7))
        self.taken(NoFace, moved, FOUR, (0, 2, 1), bowl(3), {}, (0, 2), (2, 1))


if __name__ == "__main__":
    unittest.main()
