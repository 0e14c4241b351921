import itertools
import unittest

from restdraw.bases import is_base, is_three_cornered
from tests.helper import (
    ANYTHING, CHAIN, FOUR, SEVEN, TRIANGLE, TWISTED, all_tied, bases_of, cycles, faces_of, flat_by_count, flat_webs,
    other_webs, ring, star, three_cornered, three_tied, wheel,
)


class TestThreeCornered(unittest.TestCase):
    def test_some(self):
        self.assertIs(is_three_cornered(TRIANGLE), True)
        self.assertIs(is_three_cornered(FOUR), True)
        self.assertIs(is_three_cornered(CHAIN), False)
        self.assertIs(is_three_cornered(ring(4)), False)
        self.assertIs(is_three_cornered(star(4)), False)
        self.assertIs(is_three_cornered(wheel(4)), True)
        self.assertIs(is_three_cornered(wheel(5)), False)

    def test_not_flat(self):
        self.assertIs(is_three_cornered(TWISTED), False)
        # Each face has three places, and yet it is not flat.
        self.assertEqual({len(face) for face in faces_of(SEVEN)}, {3})
        self.assertIs(is_three_cornered(SEVEN), False)

    def test_three_to_forty_places(self):
        for many in range(3, 41):
            self.assertIs(is_three_cornered(three_cornered(many, many)), True)

    def test_any_webs(self):
        webs = flat_webs() + other_webs() + [all_tied(40)] + [three_tied(seed, 9, 7) for seed in range(30)]
        told = [is_three_cornered(web) for web in webs]
        due = [flat_by_count(web) and all(len(steps) == 3 for steps in cycles(web)) for web in webs]
        self.assertEqual(told, due)
        self.assertGreater(min(due.count(True), due.count(False)), 3)


class TestBase(unittest.TestCase):
    def test_some(self):
        self.assertIs(is_base(FOUR, (0, 1, 2)), True)
        self.assertIs(is_base(FOUR, (1, 2, 0)), True)
        self.assertIs(is_base(FOUR, (2, 0, 1)), True)
        # Backwards, and with one of another face.
        self.assertIs(is_base(FOUR, (0, 2, 1)), False)
        self.assertIs(is_base(FOUR, (1, 0, 2)), False)
        self.assertIs(is_base(FOUR, (0, 1, 3)), False)
        self.assertIs(is_base(FOUR, (1, 0, 3)), True)

    def test_three_places(self):
        for some in itertools.permutations(range(3)):
            self.assertIs(is_base(TRIANGLE, some), True)

    def test_each_three(self):
        for seed, many in enumerate((3, 4, 5, 6, 8, 12)):
            web = three_cornered(seed, many)
            due = bases_of(web)
            self.assertEqual(len(due), 6 * many - 12)
            for some in itertools.product(range(-2, many + 2), repeat=3):
                self.assertIs(is_base(web, some), some in due)

    def test_forty_places(self):
        web = three_cornered(4, 40)
        for a, b, c in bases_of(web):
            for some in ((a, b, c), (b, c, a), (c, a, b)):
                self.assertIs(is_base(web, some), True)
            for some in ((b, a, c), (a, c, b), (c, b, a)):
                self.assertIs(is_base(web, some), False)

    def test_of_anything(self):
        for web in (TRIANGLE, FOUR, three_cornered(1, 12)):
            for thing in ANYTHING:
                self.assertIs(is_base(web, thing), False)
                for at in range(3):
                    some = list(bases_of(web)[0])
                    if type(thing) is not int:
                        some[at] = thing
                        self.assertIs(is_base(web, tuple(some)), False)

    def test_other_kinds(self):
        wrong = [
            [0, 1, 2], "012", (0, 1), (0,), (), (0, 1, 2, 0), (0, 1, 2, 3), ((0, 1, 2),), ((0,), (1,), (2,)),
            (0, True, 2), (False, 1, 2), (False, True, 2), ("0", "1", "2"), {0: 1, 1: 2, 2: 0}, (0, 1, None),
            (-4, 1, 2), (0, -3, 2), (0, 1, -2), (-4, -3, -2), (0, 1, 10 ** 5000), (-10 ** 5000, 1, 2), (0, 1, 4),
            (4, 1, 0), (0, 0, 0), (0, 0, 1), (0, 1, 1), (1, 0, 1),
        ]
        for thing in wrong:
            self.assertIs(is_base(FOUR, thing), False)

    def test_truths_for_each_number(self):
        for base in bases_of(FOUR):
            for at in range(3):
                if base[at] in (0, 1):
                    some = base[:at] + (bool(base[at]),) + base[at + 1:]
                    self.assertEqual(some, base)
                    self.assertIs(is_base(FOUR, some), False)


if __name__ == "__main__":
    unittest.main()
