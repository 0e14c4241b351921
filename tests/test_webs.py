import random
import unittest

from restdraw.webs import behind, faces, is_flat, is_web, mirrored, renamed, ties
from tests.helper import (
    ANYTHING, BOW, CHAIN, FOUR, SEVEN, TRIANGLE, TWISTED, all_tied, chain, cycles, flat_webs, least_first,
    other_webs, pairs_of, plainly_web, random_flat, ring, star, wheel,
)


class TestWebs(unittest.TestCase):
    def test_webs(self):
        for web in flat_webs() + other_webs():
            self.assertIs(is_web(web), True)

    def test_of_anything(self):
        for thing in ANYTHING:
            self.assertIs(is_web(thing), False)
            self.assertIs(is_web((thing,) * 3), False)
            self.assertIs(is_web(((thing, 2), (0, 2), (0, 1))), thing is not True and thing == 1)
            self.assertIs(is_web((thing, (0, 2), (0, 1))), False)

    def test_too_few_rows(self):
        self.assertIs(is_web(((1,), (0,))), False)
        self.assertIs(is_web(((),)), False)
        self.assertIs(is_web(((0,),)), False)

    def test_lists_for_tuples(self):
        self.assertIs(is_web([(1, 2), (0, 2), (0, 1)]), False)
        self.assertIs(is_web(((1, 2), [0, 2], (0, 1))), False)
        self.assertIs(is_web({0: (1, 2), 1: (0, 2), 2: (0, 1)}), False)
        self.assertIs(is_web(({1: 1, 2: 2}, (0, 2), (0, 1))), False)
        self.assertIs(is_web(("12", "02", "01")), False)
        self.assertIs(is_web((b"\x01\x02", b"\x00\x02", b"\x00\x01")), False)

    def test_row_not_from_its_least_one_on(self):
        self.assertIs(is_web(((2, 1), (0, 2), (0, 1))), False)
        self.assertIs(is_web(((1, 2), (0, 2), (1, 0))), False)
        self.assertIs(is_web(FOUR[:3] + ((1, 2, 0),)), False)

    def test_wrong_neighbours(self):
        self.assertIs(is_web(((0, 1, 2), (0, 2), (0, 1))), False)
        self.assertIs(is_web(((1, 2), (0, 1, 2), (0, 1))), False)
        self.assertIs(is_web(((1, 2, 2), (0, 2), (0, 1))), False)
        self.assertIs(is_web(((1, 1, 2), (0, 2), (0, 1))), False)
        self.assertIs(is_web(((1, 1, 2), (0, 0, 2), (0, 1))), False)
        self.assertIs(is_web(((1, 2, 1, 2), (0, 2, 0), (0, 1, 0))), False)
        self.assertIs(is_web(((1, 2), (0, 2), (0, 1), ())), False)
        self.assertIs(is_web(((1, 2), (0,), (0, 1))), False)
        self.assertIs(is_web(((1,), (0, 2), (0, 1))), False)
        self.assertIs(is_web(((1, 2, 3), (0, 2), (0, 1))), False)
        self.assertIs(is_web(((-1, 1, 2), (0, 2), (0, 1))), False)
        self.assertIs(is_web(((1, -1), (0, 2), (0, 1))), False)
        self.assertIs(is_web(((1, 2, 10 ** 5000), (0, 2), (0, 1))), False)

    def test_truths_for_numbers(self):
        self.assertIs(is_web(((True, 2), (0, 2), (0, 1))), False)
        self.assertIs(is_web(((1, 2), (False, 2), (0, 1))), False)
        self.assertIs(is_web(((1, 2), (0, 2), (0, True))), False)

    def test_things_that_are_no_numbers(self):
        for thing in ("1", None, (1,), [1], {}, b"1", object()):
            self.assertIs(is_web(((thing, 2), (0, 2), (0, 1))), False)
            self.assertIs(is_web(((1, thing), (0, 2), (0, 1))), False)
            self.assertIs(is_web(((1, 2), (0, 2), (0, 1, thing))), False)

    def test_what_does_not_hang_together(self):
        self.assertIs(is_web(((1,), (0,), (3,), (2,))), False)
        self.assertIs(is_web(TRIANGLE + ((4, 5), (3, 5), (3, 4))), False)
        self.assertIs(is_web(((4, 5),) + ((2, 3), (1, 3), (1, 2)) + ((0, 5), (0, 4))), False)

    def test_changed_by_chance(self):
        chance = random.Random(5)
        told = {True: 0, False: 0}
        for _ in range(4000):
            many = chance.randrange(2, 5)
            rows = []
            for p in range(many):
                others = [q for q in range(many) if q != p or chance.randrange(20) == 0]
                chance.shuffle(others)
                row = [q for q in others if chance.randrange(5)]
                if row and chance.randrange(10):
                    row = list(least_first(row))
                rows.append(tuple(row))
            web = tuple(rows)
            self.assertEqual(is_web(web), plainly_web(web), web)
            told[is_web(web)] += 1
        self.assertGreater(min(told.values()), 200)

    def test_ties(self):
        self.assertEqual(ties(TRIANGLE), [(0, 1), (0, 2), (1, 2)])
        self.assertEqual(ties(CHAIN), [(0, 1), (1, 2)])
        self.assertEqual(ties(FOUR), [(0, 1), (0, 2), (0, 3), (1, 2), (1, 3), (2, 3)])
        for web in flat_webs() + other_webs():
            self.assertEqual(ties(web), pairs_of(web))

    def test_mirrored(self):
        self.assertEqual(mirrored(TRIANGLE), TRIANGLE)
        self.assertEqual(mirrored(FOUR), ((1, 2, 3), (0, 3, 2), (0, 1, 3), (0, 2, 1)))
        self.assertEqual(mirrored(star(5))[0], (1, 4, 3, 2))
        for web in flat_webs() + other_webs():
            about = mirrored(web)
            self.assertTrue(is_web(about))
            self.assertEqual(about, tuple(least_first(row[::-1]) for row in web))
            self.assertEqual(mirrored(about), web)
            self.assertEqual(is_flat(about), is_flat(web))

    def test_renamed(self):
        self.assertEqual(renamed(CHAIN, (1, 0, 2)), ((1, 2), (0,), (0,)))
        self.assertEqual(renamed(CHAIN, (1, 2, 0)), ((2,), (2,), (0, 1)))
        self.assertEqual(renamed(FOUR, (0, 1, 2, 3)), FOUR)
        self.assertEqual(renamed(star(4), (3, 2, 1, 0)), ((3,), (3,), (3,), (0, 2, 1)))
        chance = random.Random(3)
        for web in flat_webs() + other_webs():
            names = list(range(len(web)))
            chance.shuffle(names)
            back = [names.index(p) for p in range(len(web))]
            there = renamed(web, tuple(names))
            self.assertTrue(is_web(there))
            for p, row in enumerate(web):
                self.assertEqual(there[names[p]], least_first([names[q] for q in row]))
            self.assertEqual(renamed(there, tuple(back)), web)
            self.assertEqual(len(faces(there)), len(faces(web)))


class TestFaces(unittest.TestCase):
    def test_behind(self):
        self.assertEqual(behind(TRIANGLE, (0, 1)), (1, 2))
        self.assertEqual(behind(TRIANGLE, (1, 0)), (0, 2))
        self.assertEqual(behind(CHAIN, (0, 1)), (1, 2))
        self.assertEqual(behind(CHAIN, (1, 2)), (2, 1))
        self.assertEqual(behind(star(4), (1, 0)), (0, 3))
        self.assertEqual(behind(star(4), (2, 0)), (0, 1))
        self.assertEqual(behind(star(4), (0, 2)), (2, 0))
        self.assertEqual(behind(FOUR, (0, 1)), (1, 3))
        self.assertEqual(behind(FOUR, (1, 3)), (3, 0))

    def test_behind_each_step(self):
        for web in flat_webs()[:30] + other_webs()[:30]:
            steps = [(p, q) for p, row in enumerate(web) for q in row]
            for p, q in steps:
                start, end = behind(web, (p, q))
                self.assertEqual(start, q)
                row = web[q]
                self.assertEqual(row[(row.index(end) + 1) % len(row)], p)
            self.assertEqual(sorted(behind(web, step) for step in steps), sorted(steps))

    def test_the_documents_own(self):
        self.assertEqual(faces(((1, 2), (0, 2), (0, 1))), [(0, 1, 2), (0, 2, 1)])
        self.assertIs(is_flat(((1, 2), (0, 2), (0, 1))), True)

    def test_some_faces(self):
        self.assertEqual(faces(CHAIN), [(0, 1, 2, 1)])
        self.assertEqual(faces(star(4)), [(0, 1, 0, 3, 0, 2)])
        self.assertEqual(faces(FOUR), [(0, 1, 3), (0, 2, 1), (0, 3, 2), (1, 2, 3)])
        self.assertEqual(faces(BOW), [(0, 1, 2), (0, 2, 1, 0, 4, 3), (0, 3, 4)])
        self.assertEqual(faces(TWISTED), [(0, 1, 3, 0, 2, 3, 1, 2), (0, 3, 2, 1)])

    def test_sorted_from_the_least_step_each_step_once(self):
        for web in flat_webs() + other_webs():
            told = faces(web)
            self.assertEqual(told, sorted(told))
            steps = []
            for face in told:
                self.assertIsInstance(face, tuple)
                here = [(p, face[(at + 1) % len(face)]) for at, p in enumerate(face)]
                self.assertEqual(min(here), here[0])
                for at, step in enumerate(here):
                    self.assertEqual(behind(web, step), here[(at + 1) % len(here)])
                steps += here
            self.assertEqual(sorted(steps), sorted((p, q) for p, row in enumerate(web) for q in row))
            self.assertEqual(told, sorted(tuple(p for p, q in one) for one in cycles(web)))

    def test_at_the_left_hand(self):
        """In a drawing all faces but the outer one go to the left."""
        for seed in range(12):
            points, web = random_flat(seed, 4 + seed, 4 + seed % 6)
            areas = []
            for face in faces(web):
                about = 0
                for at, p in enumerate(face):
                    q = face[(at + 1) % len(face)]
                    about += points[p][0] * points[q][1] - points[p][1] * points[q][0]
                areas.append(about)
            self.assertEqual(sum(areas), 0)
            self.assertEqual(len([one for one in areas if one <= 0]), 1)

    def test_flat(self):
        for web in flat_webs():
            self.assertIs(is_flat(web), True)

    def test_not_flat(self):
        for web in other_webs():
            self.assertIs(is_flat(web), False)
        self.assertEqual(len(faces(SEVEN)), 14)
        self.assertTrue(all(len(face) == 3 for face in faces(SEVEN)))
        self.assertIs(is_flat(all_tied(40)), False)

    def test_counts(self):
        self.assertEqual([len(faces(web)) for web in (chain(40), star(40), ring(40), wheel(40))], [1, 1, 2, 40])


class TestNothingKept(unittest.TestCase):
    def test_lists_are_the_askers_own(self):
        for web in (TRIANGLE, FOUR, wheel(7)):
            for ask in (ties, faces):
                first = ask(web)
                held = list(first)
                first.append("x")
                first[0] = None
                self.assertEqual(ask(web), held)

    def test_what_is_handed_in_stays(self):
        for web in (FOUR, BOW, SEVEN, wheel(9)):
            held = tuple(tuple(list(row)) for row in web)
            names = tuple(reversed(range(len(web))))
            names_held = tuple(list(names))
            ties(web), faces(web), is_web(web), is_flat(web), mirrored(web), renamed(web, names)
            behind(web, (0, 1))
            self.assertEqual(web, held)
            self.assertEqual(names, names_held)

    def test_things_that_can_be_changed_stay(self):
        rows = [(1, 2), [0, 2], (0, 1)]
        self.assertIs(is_web(rows), False)
        self.assertEqual(rows, [(1, 2), [0, 2], (0, 1)])
        inner = [0, 2]
        thing = ((1, 2), inner, (0, 1))
        self.assertIs(is_web(thing), False)
        self.assertEqual(inner, [0, 2])

    def test_told_again_alike(self):
        for web in flat_webs()[:20]:
            self.assertEqual(faces(web), faces(web))
            self.assertEqual(ties(web), ties(web))


if __name__ == "__main__":
    unittest.main()
