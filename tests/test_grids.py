import itertools
import random
import unittest
from fractions import Fraction

from restdraw.errors import NoBase, NoOrder, NotCornered, NotFlat
from restdraw.grids import as_points, grid, grids
from restdraw.judging import judged, outer
from restdraw.orders import is_order, order_of
from tests.helper import (
    FOUR, TRIANGLE, TWISTED, Refusing, any_meet, any_order, bases_of, cornered_cases, drawing_of, laid_plainly,
    least_first, mirrored_plainly, outer_of, pairs_of, put_amid, renamed_by, ring, three_cornered, web_of_points,
    wrong_orders,
)


def placed_plainly(web, base, order):
    """Behind two, three, .. places a dict from places to spots, straight as the words go."""
    parts, tops = laid_plainly(web, base, order)
    holder = {p: p for p in order[:2]}
    spots = {p: (Fraction(0), Fraction(0)) for p in order[:2]}
    told = [dict(spots)]
    for v, part, top in zip(order[2:], parts, tops):
        l, r = part[0], part[-1]
        far = top[top.index(r):]
        for p, at in holder.items():
            if at in part[1:-1]:
                spots[p] = (spots[p][0] + 1, spots[p][1])
                holder[p] = v
            elif at in far:
                spots[p] = (spots[p][0] + 2, spots[p][1])
        rising, falling = spots[l][1] - spots[l][0], spots[r][1] + spots[r][0]
        spots[v] = ((falling - rising) / 2, (falling + rising) / 2)
        holder[v] = v
        told.append(dict(spots))
    return told


def exchanges(web, order):
    """The order with two places side by side exchanged, neither of the base, that no tie joins."""
    for at in range(2, len(order) - 2):
        if order[at] not in web[order[at + 1]]:
            yield order[:at] + (order[at + 1], order[at]) + order[at + 2:]


class TestGrids(Refusing):
    def test_some(self):
        told = grids(TRIANGLE, (0, 1, 2), (0, 1, 2))
        self.assertEqual(told, (((0, 0, 0), (1, 0, 0)), ((0, 0, 0), (1, 2, 0), (2, 1, 1))))
        self.assertEqual(grid(TRIANGLE, (0, 1, 2), (0, 1, 2)), ((0, 0), (2, 0), (1, 1)))
        self.assertEqual(grid(TRIANGLE, (2, 0, 1), (2, 0, 1)), ((2, 0), (1, 1), (0, 0)))
        self.assertEqual(grids(FOUR, (0, 1, 2), (0, 1, 3, 2)), (
            ((0, 0, 0), (1, 0, 0)),
            ((0, 0, 0), (1, 2, 0), (3, 1, 1)),
            ((0, 0, 0), (1, 4, 0), (3, 2, 1), (2, 2, 2)),
        ))
        self.assertEqual(grid(FOUR, (0, 1, 2), (0, 1, 3, 2)), ((0, 0), (4, 0), (2, 2), (2, 1)))

    def test_what_hangs_at_what_is_taken_out(self):
        # 3 comes over 4, and with it 4 moves when the last one comes.
        rows = [list(row) for row in FOUR]
        put_amid(rows, (0, 1, 3))
        web = tuple(least_first(row) for row in rows)
        self.assertEqual(grids(web, (0, 1, 2), (0, 1, 4, 3, 2))[-2:], (
            ((0, 0, 0), (1, 4, 0), (4, 2, 1), (3, 2, 2)),
            ((0, 0, 0), (1, 6, 0), (4, 3, 1), (3, 3, 2), (2, 3, 3)),
        ))

    def look_over(self, web, base, order):
        told = grids(web, base, order)
        due = placed_plainly(web, base, order)
        self.assertIsInstance(told, tuple)
        self.assertEqual(len(told), len(web) - 1)
        for many, (here, spots) in enumerate(zip(told, due), 2):
            self.assertIsInstance(here, tuple)
            self.assertEqual([p for p, x, y in here], list(order[:many]))
            for row in here:
                self.assertIsInstance(row, tuple)
                self.assertEqual({type(one) for one in row}, {int})
            self.assertEqual({p: (x, y) for p, x, y in here}, spots)
        last = {p: (x, y) for p, x, y in told[-1]}
        self.assertEqual(grid(web, base, order), tuple(last[p] for p in range(len(web))))
        self.look_over_box(web, base, last)
        return told

    def look_over_box(self, web, base, spots):
        many = len(web)
        self.assertEqual([spots[p] for p in base], [(0, 0), (2 * many - 4, 0), (many - 2, many - 2)])
        for x, y in spots.values():
            self.assertIn(x, range(2 * many - 3))
            self.assertIn(y, range(many - 1))

    def test_three_to_forty_places(self):
        for seed in range(4):
            for web, base, order in cornered_cases(seed):
                self.look_over(web, base, order)

    def test_the_order_that_is_told(self):
        for web, base, order in cornered_cases(5, 14):
            for other in bases_of(web):
                self.look_over(web, other, order_of(web, other))

    def test_each_order(self):
        seen = 0
        for seed, many in ((1, 4), (2, 5), (3, 6), (4, 7), (5, 8)):
            web = three_cornered(seed, many)
            for a, b, c in bases_of(web)[:4]:
                for amid in itertools.permutations(set(range(many)) - {a, b, c}):
                    order = (a, b) + amid + (c,)
                    if laid_plainly(web, (a, b, c), order):
                        self.look_over(web, (a, b, c), order)
                        seen += 1
        self.assertGreater(seen, 20)

    def test_no_ties_meet_at_each_step(self):
        for web, base, order in itertools.chain(cornered_cases(6, 24), cornered_cases(7, 16)):
            for here in grids(web, base, order)[1:]:
                points = {p: (x, y) for p, x, y in here}
                pairs = [(p, q) for p, q in pairs_of(web) if p in points and q in points]
                self.assertFalse(any_meet(points, pairs))

    def test_no_ties_meet_at_some_steps_of_forty(self):
        chance = random.Random(40)
        web = three_cornered(41, 40)
        base = chance.choice(bases_of(web))
        for here in grids(web, base, any_order(chance, web, base))[2::9]:
            points = {p: (x, y) for p, x, y in here}
            self.assertFalse(any_meet(points, [(p, q) for p, q in pairs_of(web) if p in points and q in points]))

    def test_the_judge(self):
        for seed in range(3):
            for web, base, order in cornered_cases(10 + seed):
                told = grid(web, base, order)
                self.assertIsNone(judged(web, as_points(told)))
                self.assertEqual(outer(web, as_points(told)), outer_of(base))
                self.assertEqual(web_of_points(told, pairs_of(web)), web)

    def test_two_places_exchanged(self):
        met = 0
        for web, base, order in itertools.chain(cornered_cases(20), cornered_cases(21)):
            for other in exchanges(web, order):
                self.assertTrue(is_order(web, base, other))
                self.assertEqual(grid(web, base, other), grid(web, base, order))
                met += 1
        self.assertGreater(met, 200)

    def test_mirrored(self):
        for web, base, order in cornered_cases(22):
            a, b, c = base
            there = grids(mirrored_plainly(web), (b, a, c), (b, a) + order[2:])
            for many, (here, other) in enumerate(zip(grids(web, base, order), there), 2):
                spots = {p: (x, y) for p, x, y in here}
                self.assertEqual({p: (2 * many - 4 - x, y) for p, x, y in other}, spots)

    def test_renamed(self):
        for web, base, order in cornered_cases(23):
            names = random.Random(len(web)).sample(range(len(web)), len(web))
            there = renamed_by(web, names), tuple(names[p] for p in base), tuple(names[p] for p in order)
            told = grids(web, base, order)
            self.assertEqual(grids(*there), tuple(tuple((names[p], x, y) for p, x, y in here) for here in told))
            again = grid(*there)
            self.assertEqual(tuple(again[names[p]] for p in range(len(web))), grid(web, base, order))

    def test_wrong_orders(self):
        for web in (TRIANGLE, FOUR, three_cornered(9, 9), three_cornered(3, 40)):
            base = bases_of(web)[1]
            for thing in wrong_orders(order_of(web, base)):
                self.taken(NoOrder, grids, web, base, thing)
                self.taken(NoOrder, grid, web, base, thing)

    def test_refused_webs_and_bases(self):
        self.refuse_webs_and_bases([
            lambda web, base: grids(web, base, ()), lambda web, base: grid(web, base, ()),
            lambda web, base: grids(web, base, (0, 1, 3, 2)), lambda web, base: grid(web, base, (0, 1, 3, 2)),
        ])

    def test_the_first_refusal_that_is_due(self):
        for ask in (grids, grid):
            self.taken(NotFlat, ask, TWISTED, (), ())
            self.taken(NotCornered, ask, ring(4), (), ())
            self.taken(NoBase, ask, FOUR, (), ())
            self.taken(NoOrder, ask, FOUR, (0, 1, 2), ())

    def test_told_alike_again(self):
        web = three_cornered(8, 30)
        base = bases_of(web)[5]
        order = order_of(web, base)
        told = grids(web, base, order), grid(web, base, order)
        self.assertEqual((grids(web, base, order), grid(web, base, order)), told)
        self.assertEqual((web, base, order), (three_cornered(8, 30), bases_of(web)[5], order_of(web, base)))


class TestAsPoints(unittest.TestCase):
    def test_some(self):
        self.assertEqual(as_points(((0, 0), (2, 0), (1, 1))), (((0, 1), (0, 1)), ((2, 1), (0, 1)), ((1, 1), (1, 1))))
        self.assertEqual(as_points(((-7, 10 ** 100),)), (((-7, 1), (10 ** 100, 1)),))
        self.assertEqual(as_points(()), ())

    def test_many(self):
        chance = random.Random(1)
        for many in range(1, 41):
            some = tuple((chance.randrange(-99, 99), chance.randrange(-10 ** 12, 10 ** 12)) for _ in range(many))
            told = as_points(some)
            self.assertIsInstance(told, tuple)
            self.assertEqual(told, drawing_of(some))
            for x, y in told:
                self.assertEqual((x[1], y[1]), (1, 1))


if __name__ == "__main__":
    unittest.main()
