import itertools
import random
import unittest

from restdraw.errors import NoBase, NoOrder, NotCornered, NotFlat
from restdraw.orders import is_order, order_of, rounds, stretches
from tests.helper import (
    ANYTHING, FOUR, TRIANGLE, TWISTED, WRONG_BASES, Refusing, bases_of, faces_of, laid_plainly, least_first, put_amid,
    ring, three_cornered, wrong_orders,
)


class TestOrders(Refusing):
    def look_over(self, web, base, order):
        """An order's stretches and rounds, held against the words."""
        due = laid_plainly(web, base, order)
        self.assertIsNotNone(due)
        self.assertIs(is_order(web, base, order), True)
        self.assertEqual(stretches(web, base, order), due[0])
        self.assertEqual(rounds(web, base, order), due[1])
        a, b, c = base
        self.assertEqual(due[1][-1], (a, c, b))
        self.assertEqual(due[0][-1], due[1][-2])

    def test_some(self):
        self.assertEqual(order_of(TRIANGLE, (0, 1, 2)), (0, 1, 2))
        self.assertEqual(rounds(TRIANGLE, (0, 1, 2), (0, 1, 2)), ((0, 1), (0, 2, 1)))
        self.assertEqual(stretches(TRIANGLE, (0, 1, 2), (0, 1, 2)), ((0, 1),))
        self.assertEqual(order_of(FOUR, (0, 1, 2)), (0, 1, 3, 2))
        self.assertEqual(rounds(FOUR, (0, 1, 2), (0, 1, 3, 2)), ((0, 1), (0, 3, 1), (0, 2, 1)))
        self.assertEqual(stretches(FOUR, (0, 1, 2), (0, 1, 3, 2)), ((0, 1), (0, 3, 1)))

    def test_each_base_of_three_to_forty_places(self):
        for many in range(3, 41):
            web = three_cornered(many, many)
            bases = bases_of(web)
            if many > 12:
                bases = random.Random(many).sample(bases, 8)
            for base in bases:
                order = order_of(web, base)
                self.assertIsInstance(order, tuple)
                self.look_over(web, base, order)
                self.assertEqual(order_of(web, base), order)

    def test_each_base_of_forty_places(self):
        web = three_cornered(400, 40)
        for base in bases_of(web):
            self.assertIsNotNone(laid_plainly(web, base, order_of(web, base)))

    def test_many_webs(self):
        for seed in range(120):
            web = three_cornered(seed, 4 + seed % 9)
            base = random.Random(seed).choice(bases_of(web))
            self.look_over(web, base, order_of(web, base))

    def test_wide_places(self):
        # Two places, each tied to all of a ring and not to one another.
        for many in (5, 6, 9, 40):
            last = many - 1
            rows = [tuple(range(1, last))]
            for p in range(1, last):
                rows.append((0, (p - 2) % (last - 1) + 1, last, p % (last - 1) + 1))
            web = tuple(rows) + ((1,) + tuple(range(last - 1, 1, -1)),)
            self.assertEqual({len(face) for face in faces_of(web)}, {3})
            for base in bases_of(web):
                self.look_over(web, base, order_of(web, base))

    def test_each_tuple_of_all_places(self):
        orders = 0
        for seed, many in ((1, 3), (2, 4), (3, 5), (4, 5), (5, 6), (6, 6), (7, 7)):
            web = three_cornered(seed, many)
            for base in bases_of(web)[:12 if many < 7 else 2]:
                for thing in itertools.permutations(range(many)):
                    due = laid_plainly(web, base, thing)
                    self.assertIs(is_order(web, base, thing), due is not None)
                    if due is not None:
                        self.assertEqual(stretches(web, base, thing), due[0])
                        self.assertEqual(rounds(web, base, thing), due[1])
                        orders += 1
                    elif thing[:2] == base[:2]:
                        self.taken(NoOrder, rounds, web, base, thing)
                        self.taken(NoOrder, stretches, web, base, thing)
        self.assertGreater(orders, 60)

    def test_two_places_exchanged(self):
        told = {True: 0, False: 0}
        for seed in range(30):
            chance = random.Random(seed)
            web = three_cornered(seed, 8 + seed)
            base = chance.choice(bases_of(web))
            order = order_of(web, base)
            for _ in range(30):
                at, to = chance.sample(range(len(web)), 2)
                if chance.randrange(2):
                    to = at - 1
                thing = list(order)
                thing[at], thing[to] = thing[to], thing[at]
                due = laid_plainly(web, base, tuple(thing)) is not None
                self.assertIs(is_order(web, base, tuple(thing)), due)
                told[due] += 1
        self.assertGreater(min(told.values()), 20)

    def test_wrong_ones(self):
        for web in (TRIANGLE, FOUR, three_cornered(9, 9), three_cornered(3, 40)):
            for base in bases_of(web)[:4]:
                order = order_of(web, base)
                for thing in wrong_orders(order):
                    self.assertIs(is_order(web, base, thing), False)
                    self.taken(NoOrder, rounds, web, base, thing)
                    self.taken(NoOrder, stretches, web, base, thing)

    def test_of_anything(self):
        for web in (TRIANGLE, FOUR, three_cornered(9, 9)):
            base = bases_of(web)[0]
            order = order_of(web, base)
            for thing in ANYTHING + [list(order), str(order), dict.fromkeys(order), set(order), iter(order)]:
                self.assertIs(is_order(web, base, thing), False)
                if isinstance(thing, tuple):
                    self.taken(NoOrder, rounds, web, base, thing)
                if type(thing) is not int:
                    self.assertIs(is_order(web, base, order[:-1] + (thing,)), False)
                    self.taken(NoOrder, stretches, web, base, (thing,) + order[1:])

    def test_another_base(self):
        web = three_cornered(6, 12)
        bases = bases_of(web)
        order = order_of(web, bases[0])
        for base in bases[1:]:
            self.assertIs(is_order(web, base, order), False)
            self.taken(NoOrder, rounds, web, base, order)

    def test_a_place_within_that_comes_later(self):
        rows = [list(row) for row in FOUR]
        put_amid(rows, (0, 1, 3))
        web = tuple(least_first(row) for row in rows)
        self.look_over(web, (0, 1, 2), (0, 1, 4, 3, 2))
        # Tied to both of the round it is, but the face between has not been filled.
        self.assertIs(is_order(web, (0, 1, 2), (0, 1, 3, 4, 2)), False)
        self.taken(NoOrder, stretches, web, (0, 1, 2), (0, 1, 3, 4, 2))

    def asked(self):
        """Each way to ask, with things that are no orders."""
        yield lambda web, base: is_order(web, base, None)
        yield lambda web, base: is_order(web, base, ())
        yield order_of
        yield lambda web, base: rounds(web, base, ())
        yield lambda web, base: stretches(web, base, (0, 0))

    def test_refused_webs_and_bases(self):
        self.refuse_webs_and_bases(self.asked())
        for base in WRONG_BASES:
            self.taken(NoBase, rounds, FOUR, base, (0, 1, 3, 2))
            self.taken(NoBase, is_order, FOUR, base, (0, 1, 3, 2))

    def test_the_first_refusal_that_is_due(self):
        self.taken(NotFlat, rounds, TWISTED, (), ())
        self.taken(NotCornered, rounds, ring(4), (), ())
        self.taken(NoBase, rounds, FOUR, (), ())
        self.taken(NoOrder, rounds, FOUR, (0, 1, 2), ())
        # Not flat, and with faces of more than three places.
        self.assertGreater(max(len(face) for face in faces_of(TWISTED)), 3)

    def test_what_is_handed_in_stays(self):
        web = three_cornered(8, 20)
        base = bases_of(web)[5]
        order = order_of(web, base)
        rounds(web, base, order)
        stretches(web, base, order)
        is_order(web, base, list(order))
        self.assertEqual(web, three_cornered(8, 20))
        self.assertEqual(order, order_of(web, base))
        self.assertEqual(base, bases_of(web)[5])


if __name__ == "__main__":
    unittest.main()
