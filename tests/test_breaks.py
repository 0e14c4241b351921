import unittest

from restdraw.breaks import breaks, is_three_tied
from tests.helper import (
    BOW, CHAIN, FOUR, SEVEN, TRIANGLE, TWISTED, all_tied, chain, flat_webs, hangs, other_webs, pairs_of, random_flat,
    ring, star, wheel,
)


def plainly_breaks(web):
    places = range(len(web))
    some = [(p,) for p in places] + [(p, q) for p in places for q in places if p < q]
    return sorted(one for one in some if not hangs(len(web), pairs_of(web), one))


class TestBreaks(unittest.TestCase):
    def test_none(self):
        for web in (TRIANGLE, FOUR, TWISTED, SEVEN, wheel(5), wheel(40), all_tied(5), all_tied(40)):
            self.assertEqual(breaks(web), [])

    def test_of_one_place(self):
        self.assertEqual(breaks(CHAIN), [(1,)])
        self.assertEqual(breaks(star(3)), [(0,)])

    def test_of_two_places(self):
        self.assertEqual(breaks(ring(4)), [(0, 2), (1, 3)])
        self.assertEqual(breaks(ring(5)), [(0, 2), (0, 3), (1, 3), (1, 4), (2, 4)])

    def test_pairs_in_which_one_is_a_break_alone(self):
        self.assertEqual(breaks(BOW), [(0,), (0, 1), (0, 2), (0, 3), (0, 4)])
        self.assertEqual(breaks(star(4)), [(0,), (0, 1), (0, 2), (0, 3)])
        # Without 0 and 1 of a chain of four the others hang together, though 1 is a break alone.
        self.assertEqual(breaks(chain(4)), [(0, 2), (1,), (1, 2), (1, 3), (2,)])
        # 3 hangs at 0 alone: without 0 and 3 the others hang together again.
        self.assertEqual(breaks(((1, 2, 3), (0, 2), (0, 1), (0,))), [(0,), (0, 1), (0, 2)])

    def test_against_other_words(self):
        webs = [web for web in flat_webs() + other_webs() if len(web) <= 14]
        kinds = set()
        for web in webs:
            told = breaks(web)
            self.assertEqual(told, plainly_breaks(web))
            self.assertEqual(told, sorted(told))
            kinds.add(tuple(sorted({len(one) for one in told})))
        self.assertTrue({(), (1,), (2,), (1, 2)} <= kinds, kinds)

    def test_forty_places(self):
        web = random_flat(7, 40, 6)[1]
        self.assertEqual(breaks(web), plainly_breaks(web))

    def test_three_tied(self):
        self.assertIs(is_three_tied(TRIANGLE), False)
        self.assertIs(is_three_tied(CHAIN), False)
        for web in (FOUR, TWISTED, SEVEN, wheel(7), all_tied(4), all_tied(40)):
            self.assertIs(is_three_tied(web), True)
        for web in (BOW, ring(4), chain(4), star(4), star(40), chain(40)):
            self.assertIs(is_three_tied(web), False)
        for web in other_webs()[:40]:
            self.assertIs(is_three_tied(web), not plainly_breaks(web) and len(web) > 3)

    def test_the_list_is_the_askers_own(self):
        web = ring(6)
        first = breaks(web)
        held = list(first)
        first.clear()
        self.assertEqual(breaks(web), held)
        self.assertIs(is_three_tied(web), False)
        self.assertEqual(web, ring(6))


if __name__ == "__main__":
    unittest.main()
