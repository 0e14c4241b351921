import itertools
import random
import unittest

from restdraw.errors import NoBase, NotCornered, NotFlat, NoWoods
from restdraw.lands import lands
from restdraw.orders import order_of
from restdraw.woods import woods_of
from tests.helper import (
    FOUR, FOURS, TWISTED, Refusing, bases_of, cornered_cases, faces_of, lands_plainly, least_first, outer_of,
    outs_plainly, put_amid, renamed_by, ring, three_cornered, wrong_woods,
)


def face_left(web, p, q):
    """The face that has the step at its left hand."""
    return [face for face in faces_of(web) if (p, q) in zip(face, face[1:] + face[:1])][0]


class TestLands(Refusing):
    def test_some(self):
        self.assertEqual(lands(FOUR, (0, 1, 2), FOURS, 3), ([(1, 2, 3)], [(0, 3, 2)], [(0, 1, 3)]))
        self.assertEqual(lands(FOUR, (1, 2, 0), ((), (), (), (1, 2, 0)), 3), ([(0, 3, 2)], [(0, 1, 3)], [(1, 2, 3)]))
        rows = [list(row) for row in FOUR]
        put_amid(rows, (0, 1, 3))
        web = tuple(least_first(row) for row in rows)
        woods = FOURS + ((0, 1, 3),)
        self.assertEqual(lands(web, (0, 1, 2), woods, 3), ([(1, 2, 3)], [(0, 3, 2)], [(0, 1, 4), (0, 4, 3), (1, 3, 4)]))
        self.assertEqual(lands(web, (0, 1, 2), woods, 4), ([(1, 2, 3), (1, 3, 4)], [(0, 3, 2), (0, 4, 3)], [(0, 1, 4)]))

    def look_over(self, web, base, woods, place):
        told = lands(web, base, woods, place)
        self.assertIsInstance(told, tuple)
        self.assertEqual(len(told), 3)
        for land in told:
            self.assertIsInstance(land, list)
            self.assertEqual(land, sorted(land))
        every = sum(told, [])
        self.assertEqual(sorted(every + [outer_of(base)]), faces_of(web))
        a, b, c = base
        self.assertIn(face_left(web, b, c), told[0])
        self.assertIn(face_left(web, c, a), told[1])
        self.assertIn(face_left(web, a, b), told[2])
        return told

    def test_three_to_forty_places(self):
        for web, base, order in cornered_cases(50):
            woods = outs_plainly(web, base, order)
            inner = [p for p in range(len(web)) if p not in base]
            for place in inner if len(web) < 20 else random.Random(1).sample(inner, 6):
                told = self.look_over(web, base, woods, place)
                self.assertEqual(told, lands_plainly(web, base, woods, place))

    def test_each_inner_place_of_forty(self):
        web = three_cornered(51, 40)
        base = bases_of(web)[9]
        woods = outs_plainly(web, base, order_of(web, base))
        for place in range(40):
            if place not in base:
                self.look_over(web, base, woods, place)

    def test_renamed(self):
        for web, base, order in cornered_cases(52, 16):
            woods = outs_plainly(web, base, order)
            names = random.Random(len(web)).sample(range(len(web)), len(web))
            there = [()] * len(web)
            for p, row in enumerate(woods):
                there[names[p]] = tuple(names[q] for q in row)
            for place in [p for p in range(len(web)) if p not in base]:
                told = lands(renamed_by(web, names), tuple(names[p] for p in base), tuple(there), names[place])
                due = lands(web, base, woods, place)
                named = tuple(sorted(least_first([names[p] for p in face]) for face in land) for land in due)
                self.assertEqual(told, named)

    def test_the_corners_told_about(self):
        for web, base, order in cornered_cases(53, 16):
            a, b, c = base
            woods = outs_plainly(web, base, order)
            about = tuple(row[1:] + row[:1] for row in woods)
            for place in [p for p in range(len(web)) if p not in base]:
                first, second, third = lands(web, base, woods, place)
                self.assertEqual(lands(web, (b, c, a), about, place), (second, third, first))

    def test_lists_are_the_askers_own(self):
        web = three_cornered(5, 12)
        base = bases_of(web)[3]
        woods = woods_of(web, base, order_of(web, base))
        place = [p for p in range(12) if p not in base][0]
        told = lands(web, base, woods, place)
        held = tuple(list(land) for land in told)
        for land in told:
            land.append((0, 0, 0))
            land.reverse()
        self.assertEqual(lands(web, base, woods, place), held)
        self.assertEqual((web, base), (three_cornered(5, 12), bases_of(web)[3]))
        self.assertEqual(woods, outs_plainly(web, base, order_of(web, base)))

    def test_no_woods(self):
        for web in (FOUR, three_cornered(9, 9)):
            base = bases_of(web)[1]
            woods = woods_of(web, base, order_of(web, base))
            inner = [p for p in range(len(web)) if p not in base]
            for thing, place in zip(wrong_woods(web, base, woods), itertools.cycle(inner)):
                self.taken(NoWoods, lands, web, base, thing, place)

    def test_refused_webs_and_bases(self):
        self.refuse_webs_and_bases([
            lambda web, base: lands(web, base, (), 2), lambda web, base: lands(web, base, FOURS, 3),
        ])

    def test_the_first_refusal_that_is_due(self):
        self.taken(NotFlat, lands, TWISTED, (), (), 3)
        self.taken(NotCornered, lands, ring(4), (), (), 3)
        self.taken(NoBase, lands, FOUR, (), (), 3)
        self.taken(NoWoods, lands, FOUR, (0, 1, 2), (), 3)


if __name__ == "__main__":
    unittest.main()
