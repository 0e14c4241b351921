import random
import unittest

from restdraw.errors import NotFlat
from restdraw.filling import filled
from restdraw.puttingin import taken_out
from restdraw.webs import faces, is_flat, is_web, ties
from tests.helper import (
    CHAIN, FOUR, SEVEN, TRIANGLE, TWISTED, Refusing, all_tied, chain, cycles, flat_webs, other_webs, pairs_of,
    random_flat, ring, star, wheel,
)


class TestFilled(Refusing):
    def look_over(self, web):
        told = filled(web)
        self.assertIsInstance(told, tuple)
        full, put = told
        self.assertTrue(is_web(full) and is_flat(full))
        self.assertIsInstance(put, list)
        self.assertEqual(put, sorted(put))
        self.assertEqual(sorted(pairs_of(web) + put), pairs_of(full))
        self.assertEqual(len(ties(full)), 3 * len(web) - 6)
        for face in faces(full):
            self.assertEqual(len(face), 3)
            self.assertEqual(len(set(face)), 3)
        self.lead_back(web, full, put)
        self.assertEqual(filled(web), (full, put))

    def lead_back(self, web, full, put):
        chance = random.Random(len(put))
        orders = [put, put[::-1]] + [chance.sample(put, len(put)) for _ in range(3)]
        for order in orders:
            back = full
            for tie in order:
                back = taken_out(back, tie)
            self.assertEqual(back, web)

    def test_small_ones(self):
        self.assertEqual(filled(TRIANGLE), (TRIANGLE, []))
        self.assertEqual(filled(FOUR), (FOUR, []))
        self.assertEqual(filled(CHAIN), (TRIANGLE, [(0, 2)]))
        self.assertEqual(filled(star(3)), (TRIANGLE, [(1, 2)]))

    def test_flat_webs(self):
        for web in flat_webs():
            self.look_over(web)

    def test_chains_stars_rings_at_each_size(self):
        for many in range(3, 41):
            for web in (chain(many), star(many), ring(many)):
                self.look_over(web)

    def test_by_chance(self):
        for seed in range(200, 260):
            self.look_over(random_flat(seed, 4 + seed % 17, seed % 8)[1])

    def test_not_flat(self):
        for web in other_webs() + [all_tied(20)]:
            self.assertEqual(self.taken(NotFlat, filled, web).faces, len(cycles(web)))

    def test_how_many_faces(self):
        for web, many in ((SEVEN, 14), (TWISTED, 2)):
            self.assertEqual(self.taken(NotFlat, filled, web).faces, many)

    def test_the_list_is_the_askers_own(self):
        for web in (ring(6), wheel(6), star(6), TRIANGLE):
            full, put = filled(web)
            held = list(put)
            put.append((0, 0))
            put.reverse()
            self.assertEqual(filled(web), (full, held))

    def test_what_is_handed_in_stays(self):
        web = ring(9)
        filled(web)
        self.assertEqual(web, ring(9))


if __name__ == "__main__":
    unittest.main()
