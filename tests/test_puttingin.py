import random
import unittest

from restdraw.errors import Doubled, NoFace, NoTie, Parted
from restdraw.puttingin import put_in, taken_out
from restdraw.webs import faces, is_flat, is_web, mirrored, ties
from tests.helper import (
    BOW, CHAIN, FOUR, SEVEN, TRIANGLE, TWISTED, Refusing, chain, cycles, flat_webs, hangs, least_first, lies_on, meet,
    other_webs, pairs_of, random_flat, ring, star, web_of_points, wheel,
)

GREAT = 10 ** 5000


def steps_of(web):
    return [(p, q) for p, row in enumerate(web) for q in row]


def with_right_behind(row, place, added):
    told = []
    for one in row:
        told.append(one)
        if one == place:
            told.append(added)
    return least_first(told)


class TestPutIn(Refusing):
    def test_a_ring_of_four(self):
        web = ring(4)
        self.assertEqual(web, ((1, 3), (0, 2), (1, 3), (0, 2)))
        self.assertEqual(faces(web), [(0, 1, 2, 3), (0, 3, 2, 1)])
        told = put_in(web, (0, 1), (2, 3))
        self.assertEqual(told, ((1, 2, 3), (0, 2), (0, 1, 3), (0, 2)))
        self.assertEqual(faces(told), [(0, 1, 2), (0, 2, 3), (0, 3, 2, 1)])
        self.assertEqual(put_in(web, (2, 3), (0, 1)), told)
        self.assertEqual(put_in(web, (0, 3), (2, 1)), mirrored(told))
        self.assertEqual(put_in(web, (1, 2), (3, 0)), ((1, 3), (0, 2, 3), (1, 3), (0, 1, 2)))

    def test_a_chain(self):
        self.assertEqual(put_in(CHAIN, (0, 1), (2, 1)), TRIANGLE)
        self.assertEqual(put_in(CHAIN, (2, 1), (0, 1)), TRIANGLE)

    def test_at_a_place_that_stands_in_the_face_twice(self):
        web = chain(4)
        self.assertEqual(put_in(web, (1, 2), (3, 2)), ((1,), (0, 2, 3), (1, 3), (1, 2)))
        self.assertEqual(put_in(web, (1, 0), (3, 2)), ((1,), (0, 3, 2), (1, 3), (1, 2)))

    def test_each_two_steps(self):
        many = {NoFace: 0, Doubled: 0, None: 0}
        webs = [web for web in flat_webs() + other_webs()[:40] + [SEVEN] if len(web) <= 8]
        for web in webs:
            around = {step: at for at, steps in enumerate(cycles(web)) for step in steps}
            for step in steps_of(web):
                for other in steps_of(web):
                    many[self.judge(web, around, step, other)] += 1
        self.assertGreater(min(many.values()), 300, many)

    def judge(self, web, around, step, other):
        (p, v), (q, w) = step, other
        if around[step] != around[other]:
            self.taken(NoFace, put_in, web, step, other)
            return NoFace
        if p == q or q in web[p]:
            self.assertEqual(self.taken(Doubled, put_in, web, step, other).tie, (min(p, q), max(p, q)))
            return Doubled
        told = put_in(web, step, other)
        rows = list(web)
        rows[p] = with_right_behind(web[p], v, q)
        rows[q] = with_right_behind(web[q], w, p)
        self.assertEqual(told, tuple(rows))
        self.assertTrue(is_web(told))
        self.assertEqual(is_flat(told), is_flat(web))
        self.parted(web, told, step, other)
        self.assertEqual(taken_out(told, (min(p, q), max(p, q))), web)
        return None

    def parted(self, web, told, step, other):
        """The one face is parted in two at the two steps, and the others stay."""
        here = [steps for steps in cycles(web) if step in steps][0]
        here = here[here.index(step):] + here[:here.index(step)]
        at = here.index(other)
        one = here[:at] + [(other[0], step[0])]
        two = here[at:] + [(step[0], other[0])]
        after = {frozenset(steps) for steps in cycles(told)}
        before = {frozenset(steps) for steps in cycles(web)}
        self.assertEqual(after, before - {frozenset(here)} | {frozenset(one), frozenset(two)})

    def test_as_it_is_drawn(self):
        put = 0
        for seed in range(12):
            points, web = random_flat(seed, 6 + seed, 2)
            pairs = pairs_of(web)
            for p in range(len(web)):
                for q in range(p):
                    tie = (q, p)
                    if tie in pairs or any(lies_on(points, tie, r) for r in range(len(web)) if r not in tie):
                        continue
                    if any(meet(points, tie, other) for other in pairs):
                        continue
                    drawn = web_of_points(points, pairs + [tie])
                    v = drawn[p][drawn[p].index(q) - 1]
                    w = drawn[q][drawn[q].index(p) - 1]
                    self.assertEqual(put_in(web, (p, v), (q, w)), drawn)
                    put += 1
        self.assertGreater(put, 100)

    def test_no_steps(self):
        wrong = [
            (0, 0), (0, 2), (2, 0), (1, 3), (0, 4), (4, 0), (-1, 0), (0, -1), (-1, -2), (-4, 1), (1, -4), (-3, 2),
            (GREAT, 0), (0, GREAT), (-GREAT, GREAT),
        ]
        for pair in wrong:
            self.taken(NoFace, put_in, ring(4), pair, (2, 3))
            self.taken(NoFace, put_in, ring(4), (2, 3), pair)
            self.taken(NoFace, put_in, ring(4), pair, pair)

    def test_unlike_faces(self):
        web = wheel(5)
        self.taken(NoFace, put_in, ring(4), (0, 1), (2, 1))
        # Neighbours, and one place, are refused so too where the faces are unlike.
        self.taken(NoFace, put_in, ring(4), (0, 1), (1, 0))
        self.taken(NoFace, put_in, ring(4), (0, 1), (0, 3))
        self.taken(NoFace, put_in, web, (0, 1), (0, 2))
        self.taken(NoFace, put_in, web, (1, 2), (3, 0))

    def test_doubled(self):
        self.assertEqual(self.taken(Doubled, put_in, ring(4), (0, 1), (1, 2)).tie, (0, 1))
        self.assertEqual(self.taken(Doubled, put_in, ring(4), (1, 2), (0, 1)).tie, (0, 1))
        self.assertEqual(self.taken(Doubled, put_in, ring(4), (3, 0), (0, 1)).tie, (0, 3))
        self.assertEqual(self.taken(Doubled, put_in, ring(4), (2, 3), (2, 3)).tie, (2, 2))
        self.assertEqual(self.taken(Doubled, put_in, star(4), (0, 1), (0, 3)).tie, (0, 0))
        self.assertEqual(self.taken(Doubled, put_in, FOUR, (3, 0), (0, 1)).tie, (0, 3))

    def test_what_is_not_flat(self):
        self.assertEqual(self.taken(Doubled, put_in, TWISTED, (0, 1), (3, 0)).tie, (0, 3))
        self.taken(NoFace, put_in, TWISTED, (0, 1), (0, 3))
        self.taken(NoFace, put_in, SEVEN, (0, 0), (0, 1))


class TestTakenOut(Refusing):
    def test_some(self):
        self.assertEqual(taken_out(TRIANGLE, (0, 2)), CHAIN)
        self.assertEqual(taken_out(TRIANGLE, (0, 1)), ((2,), (2,), (0, 1)))
        self.assertEqual(taken_out(FOUR, (0, 1)), ((2, 3), (2, 3), (0, 3, 1), (0, 1, 2)))
        self.assertEqual(taken_out(FOUR, (0, 3))[3], (1, 2))
        self.assertEqual(taken_out(FOUR, (0, 3)), ((1, 2), (0, 2, 3), (0, 3, 1), (1, 2)))

    def test_told_from_the_least_again(self):
        web = wheel(6)
        self.assertEqual(web[5], (0, 4, 1))
        self.assertEqual(taken_out(web, (0, 5))[5], (1, 4))

    def test_each_tie(self):
        parted = left = 0
        for web in flat_webs() + other_webs()[:40]:
            for tie in pairs_of(web):
                if hangs(len(web), [one for one in pairs_of(web) if one != tie]):
                    rows = tuple(
                        least_first([q for q in row if {p, q} != set(tie)]) for p, row in enumerate(web)
                    )
                    self.assertEqual(taken_out(web, tie), rows)
                    self.assertTrue(is_web(rows))
                    left += 1
                else:
                    self.assertEqual(self.taken(Parted, taken_out, web, tie).tie, tie)
                    parted += 1
        self.assertGreater(min(parted, left), 300)

    def test_parted(self):
        self.assertEqual(self.taken(Parted, taken_out, CHAIN, (0, 1)).tie, (0, 1))
        self.assertEqual(self.taken(Parted, taken_out, star(40), (0, 39)).tie, (0, 39))
        two = ((1, 2), (0, 2), (0, 1, 3), (2, 4, 5), (3, 5), (3, 4))
        self.assertEqual(self.taken(Parted, taken_out, two, (2, 3)).tie, (2, 3))

    def test_no_ties(self):
        for web in (ring(4), star(4), BOW, SEVEN):
            for p in range(-5, 9):
                for q in range(-5, 9):
                    if (p, q) not in pairs_of(web):
                        self.assertEqual(self.taken(NoTie, taken_out, web, (p, q)).tie, (p, q))

    def test_turned_about(self):
        self.assertEqual(self.taken(NoTie, taken_out, CHAIN, (1, 0)).tie, (1, 0))
        self.assertEqual(self.taken(NoTie, taken_out, TRIANGLE, (2, 0)).tie, (2, 0))

    def test_great_numbers(self):
        for tie in ((0, GREAT), (GREAT, 0), (-GREAT, GREAT), (-GREAT, 1), (GREAT, GREAT)):
            self.assertTrue(self.taken(NoTie, taken_out, FOUR, tie).tie == tie)

    def test_many_put_in_and_taken_out(self):
        chance = random.Random(9)
        for start in (chain(9), star(9), ring(12), random_flat(4, 14, 1)[1]):
            web = start
            put = []
            for _ in range(3000):
                step, other = chance.choice(steps_of(web)), chance.choice(steps_of(web))
                try:
                    web = put_in(web, step, other)
                except (NoFace, Doubled):
                    continue
                put.append((min(step[0], other[0]), max(step[0], other[0])))
            self.assertEqual(sorted(pairs_of(start) + put), ties(web))
            self.assertTrue(is_web(web) and is_flat(web))
            for _ in range(3):
                chance.shuffle(put)
                back = web
                for tie in put:
                    back = taken_out(back, tie)
                self.assertEqual(back, start)

    def test_what_is_handed_in_stays(self):
        web = wheel(6)
        put_in(ring(6), (0, 1), (3, 4))
        taken_out(web, (0, 3))
        self.assertEqual(web, wheel(6))
        self.assertEqual(taken_out(web, (0, 3)), taken_out(web, (0, 3)))


if __name__ == "__main__":
    unittest.main()
