import itertools
import random
import unittest

from restdraw.errors import NoBase, NoOrder, NotCornered, NotFlat, NoWoods
from restdraw.grids import grid
from restdraw.orders import order_of
from restdraw.woodorders import goes_along, order_along
from restdraw.woods import woods_of
from tests.helper import (
    FOUR, FOURS, TRIANGLE, TWISTED, Refusing, any_order, bases_of, cornered_cases, laid_plainly, outs_plainly, ring,
    three_cornered, wrong_orders, wrong_woods,
)


def along_plainly(base, woods, order):
    """Straight as the words go."""
    for p, row in enumerate(woods):
        if p not in base:
            first, second, third = [order.index(q) for q in row]
            if not max(first, second) < order.index(p) < third:
                return False
    return True


def two_orders(seed, many):
    """A three-cornered web, a base, and two orders."""
    chance = random.Random(seed)
    web = three_cornered(seed, many)
    base = chance.choice(bases_of(web))
    return web, base, any_order(chance, web, base), any_order(chance, web, base)


class TestGoesAlong(Refusing):
    def test_some(self):
        self.assertIs(goes_along(TRIANGLE, (0, 1, 2), ((), (), ()), (0, 1, 2)), True)
        self.assertIs(goes_along(FOUR, (0, 1, 2), FOURS, (0, 1, 3, 2)), True)

    def test_its_own_woods(self):
        for web, base, order in itertools.chain(cornered_cases(40), cornered_cases(41)):
            self.assertIs(goes_along(web, base, woods_of(web, base, order), order), True)

    def test_the_woods_of_another_order(self):
        told = {True: 0, False: 0}
        for seed in range(150):
            web, base, order, other = two_orders(seed, 5 + seed % 20)
            woods = woods_of(web, base, other)
            due = along_plainly(base, woods, order)
            self.assertIs(goes_along(web, base, woods, order), due)
            # An order that goes along has just these woods.
            self.assertEqual(outs_plainly(web, base, order) == woods, due)
            told[due] += 1
        self.assertGreater(min(told.values()), 20)

    def test_each_order_of_small_webs(self):
        told = {True: 0, False: 0}
        for seed in range(60):
            many = 5 + seed % 4
            web = three_cornered(seed, many)
            base = random.Random(seed).choice(bases_of(web))
            amid = itertools.permutations([p for p in range(many) if p not in base])
            every = [base[:2] + some + base[2:] for some in amid]
            orders = [order for order in every if laid_plainly(web, base, order)]
            for woods in {outs_plainly(web, base, order) for order in orders}:
                # What stands so is an order, whatever stands where else.
                self.assertEqual({one for one in every if along_plainly(base, woods, one)} - set(orders), set())
                for order in orders:
                    due = outs_plainly(web, base, order) == woods
                    self.assertIs(goes_along(web, base, woods, order), due)
                    told[due] += 1
        self.assertGreater(min(told.values()), 10)

    def test_no_order(self):
        for web in (TRIANGLE, FOUR, three_cornered(9, 9)):
            base = bases_of(web)[1]
            order = order_of(web, base)
            woods = woods_of(web, base, order)
            for thing in wrong_orders(order):
                self.taken(NoOrder, goes_along, web, base, woods, thing)
                self.taken(NoOrder, goes_along, web, base, (), thing)

    def test_no_woods(self):
        for web in (TRIANGLE, FOUR, three_cornered(9, 9)):
            base = bases_of(web)[1]
            order = order_of(web, base)
            for thing in wrong_woods(web, base, woods_of(web, base, order)):
                self.taken(NoWoods, goes_along, web, base, thing, order)


class TestOrderAlong(Refusing):
    def test_some(self):
        self.assertEqual(order_along(TRIANGLE, (0, 1, 2), ((), (), ())), (0, 1, 2))
        self.assertEqual(order_along(TRIANGLE, (2, 1, 0), ((), (), ())), (2, 1, 0))
        self.assertEqual(order_along(FOUR, (0, 1, 2), FOURS), (0, 1, 3, 2))

    def test_three_to_forty_places(self):
        unlike = 0
        for seed in range(4):
            for web, base, order in cornered_cases(42 + seed):
                woods = woods_of(web, base, order)
                told = order_along(web, base, woods)
                self.assertIsInstance(told, tuple)
                self.assertIsNotNone(laid_plainly(web, base, told))
                self.assertTrue(along_plainly(base, woods, told))
                self.assertIs(goes_along(web, base, woods, told), True)
                self.assertEqual(outs_plainly(web, base, told), woods)
                self.assertEqual(grid(web, base, told), grid(web, base, order))
                self.assertEqual(order_along(web, base, woods), told)
                unlike += told != order
        self.assertGreater(unlike, 60)

    def test_no_woods(self):
        for web in (TRIANGLE, FOUR, three_cornered(9, 9)):
            base = bases_of(web)[1]
            for thing in wrong_woods(web, base, woods_of(web, base, order_of(web, base))):
                self.taken(NoWoods, order_along, web, base, thing)


class TestRefused(Refusing):
    def test_refused_webs_and_bases(self):
        self.refuse_webs_and_bases([
            lambda web, base: goes_along(web, base, (), ()),
            lambda web, base: goes_along(web, base, FOURS, (0, 1, 3, 2)),
            lambda web, base: order_along(web, base, ()), lambda web, base: order_along(web, base, FOURS),
        ])

    def test_the_first_refusal_that_is_due(self):
        self.taken(NotFlat, goes_along, TWISTED, (), (), ())
        self.taken(NotCornered, goes_along, ring(4), (), (), ())
        self.taken(NoBase, goes_along, FOUR, (), (), ())
        self.taken(NoOrder, goes_along, FOUR, (0, 1, 2), (), ())
        self.taken(NoWoods, goes_along, FOUR, (0, 1, 2), (), (0, 1, 3, 2))
        self.taken(NotFlat, order_along, TWISTED, (), ())
        self.taken(NotCornered, order_along, ring(4), (), ())
        self.taken(NoBase, order_along, FOUR, (), ())
        self.taken(NoWoods, order_along, FOUR, (0, 1, 2), ())

    def test_what_is_handed_in_stays(self):
        web, base, order, other = two_orders(8, 20)
        woods = woods_of(web, base, order)
        goes_along(web, base, woods, other)
        order_along(web, base, woods)
        self.assertEqual((web, base, order, other), two_orders(8, 20))
        self.assertEqual(woods, outs_plainly(web, base, order))


if __name__ == "__main__":
    unittest.main()
