import itertools
import random
import unittest

from restdraw.errors import NoBase, NoOrder, NotCornered, NotFlat, NoWoods
from restdraw.orders import order_of
from restdraw.woods import is_woods, way, woods_of
from tests.helper import (
    ANYTHING, FOUR, FOURS, TRIANGLE, TWISTED, Refusing, any_order, bases_of, cornered_cases, laid_plainly, least_first,
    outs_plainly, plainly_woods, put_amid, renamed_by, ring, three_cornered, with_row, wrong_orders, wrong_woods,
)

# Each place tied to all but one: 0 and 5, 1 and 4, 2 and 3 are no neighbours.
OCTAHEDRON = ((1, 3, 4, 2), (0, 2, 5, 3), (0, 4, 5, 1), (0, 1, 5, 4), (0, 3, 5, 2), (1, 2, 4, 3))


def orders_of(web, base):
    """All orders of the base."""
    a, b, c = base
    amid = itertools.permutations([p for p in range(len(web)) if p not in base])
    return [order for order in ((a, b) + some + (c,) for some in amid) if laid_plainly(web, base, order)]


def out_rows(web, base):
    """All tuples of rows of unlike neighbours, as many as woods need."""
    choices = [[()] if p in base else list(itertools.permutations(row, 3)) for p, row in enumerate(web)]
    return itertools.product(*choices)


class TestWoodsOf(Refusing):
    def test_some(self):
        self.assertEqual(woods_of(TRIANGLE, (0, 1, 2), (0, 1, 2)), ((), (), ()))
        self.assertEqual(woods_of(FOUR, (0, 1, 2), (0, 1, 3, 2)), FOURS)
        self.assertEqual(woods_of(FOUR, (1, 2, 0), (1, 2, 3, 0)), ((), (), (), (1, 2, 0)))
        rows = [list(row) for row in FOUR]
        put_amid(rows, (0, 1, 3))
        web = tuple(least_first(row) for row in rows)
        self.assertEqual(woods_of(web, (0, 1, 2), (0, 1, 4, 3, 2)), FOURS + ((0, 1, 3),))

    def test_three_to_forty_places(self):
        for seed in range(4):
            for web, base, order in cornered_cases(30 + seed):
                told = woods_of(web, base, order)
                self.assertEqual(told, outs_plainly(web, base, order))
                self.assertEqual([told[p] for p in base], [(), (), ()])
                self.assertTrue(plainly_woods(web, base, told))
                self.assertIs(is_woods(web, base, told), True)
                self.assertEqual(woods_of(web, base, order), told)

    def test_renamed(self):
        for web, base, order in cornered_cases(34, 20):
            names = random.Random(len(web)).sample(range(len(web)), len(web))
            there = renamed_by(web, names), tuple(names[p] for p in base), tuple(names[p] for p in order)
            again = woods_of(*there)
            for p, row in enumerate(woods_of(web, base, order)):
                self.assertEqual(again[names[p]], tuple(names[q] for q in row))

    def test_wrong_orders(self):
        for web in (TRIANGLE, FOUR, three_cornered(9, 9), three_cornered(3, 40)):
            base = bases_of(web)[1]
            for thing in wrong_orders(order_of(web, base)):
                self.taken(NoOrder, woods_of, web, base, thing)


class TestIsWoods(Refusing):
    def test_some(self):
        self.assertIs(is_woods(FOUR, (0, 1, 2), FOURS), True)
        for row in itertools.permutations(range(3)):
            self.assertIs(is_woods(FOUR, (0, 1, 2), ((), (), (), row)), row == (0, 1, 2))
        self.assertIs(is_woods(FOUR, (1, 2, 0), FOURS), False)
        self.assertIs(is_woods(FOUR, (1, 2, 0), ((), (), (), (1, 2, 0))), True)

    def test_three_places(self):
        for base in itertools.permutations(range(3)):
            self.assertIs(is_woods(TRIANGLE, base, ((), (), ())), True)
            for thing in wrong_woods(TRIANGLE, base, ((), (), ())):
                self.assertIs(is_woods(TRIANGLE, base, thing), False)
                self.assertFalse(plainly_woods(TRIANGLE, base, thing))

    def test_all_rows_of_small_webs(self):
        """What is told to be woods are just those that are some in other words, and those of orders."""
        cases = [(FOUR, bases_of(FOUR)), (OCTAHEDRON, bases_of(OCTAHEDRON)[:2])]
        for seed in range(3):
            web = three_cornered(seed, 5)
            cases.append((web, bases_of(web)))
        kinds = set()
        for web, bases in cases:
            for base in bases:
                told = [rows for rows in out_rows(web, base) if is_woods(web, base, rows)]
                self.assertEqual(set(told), {outs_plainly(web, base, order) for order in orders_of(web, base)})
                for rows in told:
                    self.assertTrue(plainly_woods(web, base, rows))
                kinds.add(len(told))
        self.assertGreaterEqual(kinds, {1, 2})

    def test_rows_near_woods(self):
        """Two places changed at once, and rows of one woods put into another."""
        told = {True: 0, False: 0}
        for seed in range(60):
            chance = random.Random(seed)
            web = three_cornered(seed, 5 + seed % 12)
            base = chance.choice(bases_of(web))
            woods = outs_plainly(web, base, any_order(chance, web, base))
            other = outs_plainly(web, base, any_order(chance, web, base))
            inner = [p for p in range(len(web)) if p not in base]
            for _ in range(60):
                thing = woods
                for p in chance.sample(inner, min(len(inner), chance.randrange(1, 5))):
                    row = other[p] if chance.randrange(3) else tuple(chance.sample(web[p], 3))
                    thing = with_row(thing, p, row)
                due = plainly_woods(web, base, thing)
                self.assertIs(is_woods(web, base, thing), due)
                told[due] += 1
        self.assertGreater(min(told.values()), 200)

    def test_each_tie_is_one_way_out(self):
        # 3, 4 amid: between them both ways, or none.
        rows = [list(row) for row in FOUR]
        put_amid(rows, (0, 1, 3))
        web = tuple(least_first(row) for row in rows)
        self.assertIs(is_woods(web, (0, 1, 2), ((), (), (), (0, 1, 2), (0, 1, 3))), True)
        self.assertIs(is_woods(web, (0, 1, 2), ((), (), (), (0, 4, 2), (0, 1, 3))), False)
        self.assertIs(is_woods(web, (0, 1, 2), ((), (), (), (0, 1, 4), (0, 1, 3))), False)

    def test_wrong_ones(self):
        for web, base, order in cornered_cases(35, 40):
            wrong = list(wrong_woods(web, base, outs_plainly(web, base, order)))
            for thing in wrong if len(web) < 12 else wrong[len(web) % 29::29]:
                self.assertIs(is_woods(web, base, thing), False)

    def test_of_anything(self):
        for web in (TRIANGLE, FOUR, three_cornered(9, 9)):
            base = bases_of(web)[0]
            woods = outs_plainly(web, base, order_of(web, base))
            for thing in ANYTHING + [list(woods), str(woods), dict(enumerate(woods)), set(woods), iter(woods)]:
                # The one that is some: of three places.
                self.assertIs(is_woods(web, base, thing), web == TRIANGLE and thing == ((), (), ()))
                for p in range(len(web)):
                    if not (thing == () and p in base):
                        self.assertIs(is_woods(web, base, with_row(woods, p, thing)), False)
                    if p not in base:
                        self.assertIs(is_woods(web, base, with_row(woods, p, woods[p][:2] + (thing,))), False)

    def test_another_base(self):
        web = three_cornered(6, 12)
        bases = bases_of(web)
        woods = outs_plainly(web, bases[0], order_of(web, bases[0]))
        for base in bases[1:]:
            self.assertIs(is_woods(web, base, woods), False)
            self.taken(NoWoods, way, web, base, woods, [p for p in range(12) if p not in base][0], 0)

    def test_the_corners_told_about(self):
        for web, base, order in cornered_cases(36, 20):
            a, b, c = base
            woods = outs_plainly(web, base, order)
            self.assertIs(is_woods(web, (b, c, a), tuple(row[1:] + row[:1] for row in woods)), True)
            self.assertIs(is_woods(web, (c, a, b), tuple(row[2:] + row[:2] for row in woods)), True)


class TestWay(Refusing):
    def test_some(self):
        self.assertEqual(way(FOUR, (0, 1, 2), FOURS, 3, 0), (3, 0))
        self.assertEqual(way(FOUR, (0, 1, 2), FOURS, 3, 1), (3, 1))
        self.assertEqual(way(FOUR, (0, 1, 2), FOURS, 3, 2), (3, 2))

    def test_each_inner_place(self):
        longest = 0
        for web, base, order in cornered_cases(37):
            woods = outs_plainly(web, base, order)
            for p in range(len(web)):
                if p not in base:
                    told = [way(web, base, woods, p, k) for k in range(3)]
                    for k, path in enumerate(told):
                        self.assertIsInstance(path, tuple)
                        self.assertEqual((path[0], path[-1]), (p, base[k]))
                        self.assertFalse(set(path[:-1]) & set(base))
                        self.assertEqual([woods[q][k] for q in path[:-1]], list(path[1:]))
                        longest = max(longest, len(path))
                    # They have the place alone in common.
                    for one, other in itertools.combinations(told, 2):
                        self.assertEqual(set(one) & set(other), {p})
        self.assertGreater(longest, 5)

    def test_wrong_woods(self):
        for web in (FOUR, three_cornered(9, 9), three_cornered(3, 14)):
            base = bases_of(web)[1]
            woods = outs_plainly(web, base, order_of(web, base))
            inner = [p for p in range(len(web)) if p not in base]
            for at, thing in enumerate(wrong_woods(web, base, woods)):
                self.taken(NoWoods, way, web, base, thing, inner[at % len(inner)], at % 3)


class TestRefused(Refusing):
    def test_refused_webs_and_bases(self):
        self.refuse_webs_and_bases([
            lambda web, base: is_woods(web, base, None), lambda web, base: is_woods(web, base, FOURS),
            lambda web, base: woods_of(web, base, ()), lambda web, base: woods_of(web, base, (0, 1, 3, 2)),
            lambda web, base: way(web, base, (), 2, 0), lambda web, base: way(web, base, FOURS, 3, 2),
        ])

    def test_the_first_refusal_that_is_due(self):
        self.taken(NotFlat, woods_of, TWISTED, (), ())
        self.taken(NotFlat, way, TWISTED, (), (), 3, 0)
        self.taken(NotCornered, woods_of, ring(4), (), ())
        self.taken(NotCornered, way, ring(4), (), (), 3, 0)
        self.taken(NoBase, woods_of, FOUR, (), ())
        self.taken(NoBase, way, FOUR, (), (), 3, 0)
        self.taken(NoOrder, woods_of, FOUR, (0, 1, 2), ())
        self.taken(NoWoods, way, FOUR, (0, 1, 2), (), 3, 0)

    def test_what_is_handed_in_stays(self):
        web = three_cornered(8, 20)
        base = bases_of(web)[5]
        order = order_of(web, base)
        woods = woods_of(web, base, order)
        rows = [list(row) for row in woods]
        self.assertIs(is_woods(web, base, rows), False)
        self.assertEqual(rows, [list(row) for row in woods])
        rows = tuple(rows)
        self.assertIs(is_woods(web, base, rows), False)
        self.assertEqual(rows, tuple(list(row) for row in woods))
        self.assertEqual((web, base, order), (three_cornered(8, 20), bases_of(web)[5], order_of(web, base)))


if __name__ == "__main__":
    unittest.main()
