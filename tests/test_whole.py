"""What is promised over the whole program."""

import copy
import importlib
import inspect
import itertools
import random
import unittest

from restdraw import errors
from restdraw.anyflat import drawn
from restdraw.bases import is_base, is_three_cornered
from restdraw.breaks import breaks, is_three_tied
from restdraw.changes import moved
from restdraw.counting import counted, counts
from restdraw.filling import filled
from restdraw.fractions import fraction, fraction_text, less, over, plus, read_fraction, sign, times
from restdraw.grids import as_points, grid, grids
from restdraw.judging import judged, outer
from restdraw.lands import lands
from restdraw.meetings import hand, meetings, met
from restdraw.orders import is_order, order_of, rounds, stretches
from restdraw.pictures import picture, read_picture
from restdraw.pulling import farthest, pull
from restdraw.puttingin import put_in, taken_out
from restdraw.resting import at_rest
from restdraw.solving import solved
from restdraw.turnings import area, bends, turned
from restdraw.webs import behind, faces, is_flat, is_web, mirrored, renamed, ties
from restdraw.webtexts import read_web, web_text
from restdraw.woodorders import goes_along, order_along
from restdraw.woods import is_woods, way, woods_of
from tests.helper import (
    FOUR, FOURS, REFUSALS, TWISTED, Refusing, any_order, bases_of, bowl, chain, drawing_of, faces_of, flat_webs,
    least_first, number, other_webs, outer_of, pairs_of, random_flat, renamed_by, ring, side, spot, step_weights,
    three_cornered, web_of_points,
)

BASE = (0, 1, 2)
ORDER = (0, 1, 3, 2)
RIM = (0, 2, 1)
CORNERS = ((0, 0), (0, 6), (6, 0))
STILL = drawing_of([(0, 0), (6, 0), (0, 6), (2, 2)])
# Four places, crosswise: two ties cross.
CROSSED = drawing_of([(0, 0), (6, 0), (0, 6), (7, 7)])
WHEEL = ((1, 2, 3, 4), (0, 4, 2), (0, 1, 3), (0, 2, 4), (0, 3, 1))

INTERFACE = {
    "fractions": "fraction(n, d) plus(one, other) less(one, other) times(one, other) over(one, other) sign(one) "
                 "fraction_text(one) read_fraction(text)",
    "webs": "is_web(thing) ties(web) behind(web, step) faces(web) is_flat(web) mirrored(web) renamed(web, names)",
    "webtexts": "web_text(web) read_web(text)",
    "breaks": "breaks(web) is_three_tied(web)",
    "puttingin": "put_in(web, step, other) taken_out(web, tie)",
    "filling": "filled(web)",
    "solving": "solved(rows, sides)",
    "resting": "at_rest(web, rim, corners, weights)",
    "pulling": "pull(web, drawing, weights, place) farthest(drawing, other)",
    "meetings": "hand(p, q, r) met(one, other) meetings(web, drawing)",
    "turnings": "turned(web, drawing) area(drawing, row) bends(drawing, row)",
    "judging": "judged(web, drawing) outer(web, drawing)",
    "bases": "is_three_cornered(web) is_base(web, thing)",
    "orders": "is_order(web, base, thing) order_of(web, base) rounds(web, base, order) stretches(web, base, order)",
    "grids": "grids(web, base, order) grid(web, base, order) as_points(some)",
    "woods": "is_woods(web, base, thing) woods_of(web, base, order) way(web, base, woods, place, k)",
    "woodorders": "goes_along(web, base, woods, order) order_along(web, base, woods)",
    "lands": "lands(web, base, woods, place)",
    "counting": "counts(web, base, woods, weights, place) counted(web, base, woods, weights)",
    "changes": "moved(web, rim, corners, weights, step, other)",
    "pictures": "picture(some) read_picture(text)",
    "anyflat": "drawn(web)",
}

# Each function of the interface with what may be handed in.
CALLS = [
    (fraction, 6, -4), (plus, (1, 2), (1, 3)), (less, (1, 2), (1, 3)), (times, (1, 2), (1, 3)), (over, (1, 2), (1, 3)),
    (sign, (-1, 2)), (fraction_text, (-7, 2)), (read_fraction, "-7/2"), (is_web, FOUR), (is_web, [[1], [0]]),
    (is_web, {0: [1]}), (ties, FOUR), (behind, FOUR, (0, 1)), (faces, FOUR), (is_flat, TWISTED), (mirrored, FOUR),
    (renamed, FOUR, (3, 0, 2, 1)), (web_text, FOUR), (read_web, "0: 1\n1: 0 2\n2: 1\n"), (breaks, ring(5)),
    (is_three_tied, FOUR), (put_in, ring(4), (0, 1), (2, 3)), (taken_out, FOUR, (0, 3)), (filled, ring(6)),
    (filled, chain(9)), (solved, (((2, 1), (1, 3)), ((0, 1), (5, 1))), (((1, 1), (2, 1)), ((0, 1), (3, 1)))),
    (at_rest, FOUR, RIM, CORNERS, {(3, 1): 2}), (pull, FOUR, STILL, {(3, 0): 4, (0, 1): 2}, 3),
    (farthest, STILL, CROSSED), (hand, STILL[0], STILL[1], STILL[2]), (met, STILL[:2], CROSSED[2:]),
    (meetings, FOUR, CROSSED), (turned, FOUR, STILL), (area, STILL, (0, 1, 3)), (bends, STILL, (0, 1, 3)),
    (judged, FOUR, CROSSED), (judged, FOUR, STILL), (outer, FOUR, STILL), (is_three_cornered, FOUR),
    (is_base, FOUR, BASE), (is_base, FOUR, [0, 1, 2]), (is_order, FOUR, BASE, ORDER), (is_order, FOUR, BASE, [0, 1]),
    (order_of, FOUR, BASE), (rounds, FOUR, BASE, ORDER), (stretches, FOUR, BASE, ORDER), (grids, FOUR, BASE, ORDER),
    (grid, FOUR, BASE, ORDER), (as_points, CORNERS), (is_woods, FOUR, BASE, FOURS), (is_woods, FOUR, BASE, [[], {}]),
    (is_woods, FOUR, BASE, ([], [], [], [0, 1, 2])), (woods_of, FOUR, BASE, ORDER), (way, FOUR, BASE, FOURS, 3, 1),
    (goes_along, FOUR, BASE, FOURS, ORDER), (order_along, FOUR, BASE, FOURS), (lands, FOUR, BASE, FOURS, 3),
    (counts, FOUR, BASE, FOURS, {(0, 1, 3): 5}, 3), (counted, FOUR, BASE, FOURS, {(0, 1, 3): 5}),
    (moved, WHEEL, (0, 1, 2), CORNERS, {(3, 4): 2}, (1, 4), (3, 2)), (picture, CORNERS), (read_picture, "abc\n"),
    (drawn, ring(7)),
]


def spoil(thing):
    """Changes all lists and dicts in it."""
    if isinstance(thing, (list, tuple)):
        for one in thing:
            spoil(one)
    if isinstance(thing, dict):
        for one in thing.values():
            spoil(one)
        thing[0] = "spoilt"
    if isinstance(thing, list):
        thing.reverse()
        thing.append("spoilt")


class TestInterface(unittest.TestCase):
    def test_names_and_arguments(self):
        for module, words in INTERFACE.items():
            there = importlib.import_module("restdraw." + module)
            for word in words.replace(") ", ")\n").split("\n"):
                name = word.split("(")[0]
                deed = getattr(there, name)
                self.assertEqual(name + str(inspect.signature(deed)), word)
                self.assertEqual(deed.__module__, "restdraw." + module)

    def test_each_is_asked_below(self):
        named = {word.split("(")[0] for words in INTERFACE.values() for word in words.replace(") ", ")\n").split("\n")}
        self.assertEqual({deed.__name__ for deed, *handed in CALLS}, named)


class TestHandedIn(unittest.TestCase):
    def test_stays_and_is_told_alike_again(self):
        for deed, *handed in CALLS:
            held = copy.deepcopy(handed)
            told = deed(*handed)
            self.assertEqual(handed, held, deed)
            self.assertEqual(repr(handed), repr(held), deed)
            self.assertEqual(deed(*handed), told)
            self.assertEqual(repr(deed(*copy.deepcopy(handed))), repr(told))

    def test_what_is_told_is_the_askers_own(self):
        lists = set()
        for deed, *handed in CALLS:
            told = deed(*handed)
            held = copy.deepcopy(told)
            spoil(told)
            if repr(told) != repr(held):
                lists.add(deed)
            self.assertEqual(deed(*handed), held, deed)
        self.assertEqual(lists, {ties, faces, breaks, filled, meetings, lands, moved})

    def test_what_is_done_to_it_later_has_no_bearing(self):
        for deed, *handed in CALLS:
            mine = copy.deepcopy(handed)
            told = deed(*mine)
            held = copy.deepcopy(told)
            spoil(mine)
            self.assertEqual(told, held, deed)
            self.assertEqual(deed(*handed), held, deed)

    def test_breaks_of_a_refusal(self):
        some = [(0,), (1, 2)]
        told = errors.NotTied(some)
        some.clear()
        self.assertEqual(told.breaks, [(0,), (1, 2)])


class TestToldHandedInAgain(unittest.TestCase):
    def test_at_rest(self):
        web = three_cornered(4, 15)
        rim = faces_of(web)[3]
        weights = step_weights(random.Random(1), web, rim, 10)
        told = at_rest(web, rim, bowl(3), weights)
        self.assertGreater(max(x[1] for x, y in told), 10 ** 40)
        self.assertIsNone(judged(web, told))
        self.assertEqual(turned(web, told), web)
        self.assertEqual(outer(web, told), rim)
        self.assertEqual(farthest(told, told), (0, (0, 1)))
        self.assertEqual(read_fraction(fraction_text(told[-1][0])), told[-1][0])
        self.assertEqual(sum(number(area(told, face)) for face in faces_of(web)), 0)
        # Crossings of what was told, and what comes of these.
        mixed = tuple(told[-1:] + told[:-1])
        found = [where for tie, other, kind, where in meetings(web, mixed) if kind == "cross"]
        self.assertGreater(len(found), 10)
        self.assertIn(hand(found[0], found[1], found[2]), (-1, 0, 1))
        self.assertIn(met((found[0], found[1]), (told[0], told[5])) is None, (True, False))

    def test_grids_and_counts(self):
        web = three_cornered(5, 40)
        base = bases_of(web)[8]
        order = order_of(web, base)
        woods = woods_of(web, base, order)
        self.assertEqual(counts(web, base, woods, {}, base[0]), (75, 0, 0))
        for face in lands(web, base, woods, [p for p in range(40) if p not in base][0])[1]:
            points = as_points(counted(web, base, woods, {face: 1000000}))
            self.assertIsNone(judged(web, points))
        self.assertEqual(turned(web, as_points(grid(web, base, order_along(web, base, woods)))), web)


class TestTies(unittest.TestCase):
    def test_put_in_and_taken_out(self):
        met_some = 0
        for seed, web in enumerate(flat_webs() + other_webs()[:40]):
            chance = random.Random(seed)
            for face in faces(web):
                around = list(zip(face, face[1:] + face[:1]))
                step, other = chance.choice(around), chance.choice(around)
                p, q = step[0], other[0]
                if p != q and q not in web[p]:
                    full = put_in(web, step, other)
                    self.assertTrue(is_web(full))
                    self.assertEqual(is_flat(full), is_flat(web))
                    self.assertEqual(taken_out(full, (min(p, q), max(p, q))), web)
                    met_some += 1
        self.assertGreater(met_some, 60)

    def test_filled_and_emptied(self):
        for seed, web in enumerate(flat_webs()):
            full, put = filled(web)
            self.assertTrue(is_three_cornered(full))
            for tie in random.Random(seed).sample(put, len(put)):
                full = taken_out(full, tie)
            self.assertEqual(full, web)

    def test_taken_out_and_put_in(self):
        for seed in range(30):
            web = random_flat(seed, 4 + seed % 9, 8)[1]
            for p, q in ties(web):
                try:
                    left = taken_out(web, (p, q))
                except errors.Parted:
                    continue
                v, w = [web[r][web[r].index(s) - 1] for r, s in ((p, q), (q, p))]
                if len(web[p]) > 1 and len(web[q]) > 1:
                    self.assertEqual(put_in(left, (p, v), (q, w)), web)


class TestThreeDrawings(unittest.TestCase):
    def drawings(self, web, base, order, corners, names=None):
        """The three drawings of a web with its base outside; with names all is renamed first."""
        if names is not None:
            web, base, order = renamed(web, tuple(names)), tuple(names[p] for p in base), tuple(names[p] for p in order)
        a, b, c = base
        rim = least_first((a, c, b))
        placed = dict(zip((a, c, b), corners))
        # Told by where places stand in the order, so that renamed they are the same.
        at = {p: k for k, p in enumerate(order)}
        weights = {(p, q): 1 + 7 * at[p] + at[q] for p in order for q in web[p] if p not in base and at[q] % 3}
        weighed = {face: 1 + sum(at[p] for p in face) for face in faces(web) if c in face and face != rim}
        return [
            at_rest(web, rim, tuple(placed[p] for p in rim), weights),
            as_points(grid(web, base, order)),
            as_points(counted(web, base, woods_of(web, base, order), weighed)),
        ]

    def cases(self):
        for seed in range(24):
            chance = random.Random(seed)
            web = three_cornered(seed, 4 + seed % 12)
            base = chance.choice(bases_of(web))
            yield chance, web, base, any_order(chance, web, base)

    def test_the_turns_are_the_webs(self):
        for chance, web, base, order in self.cases():
            for told in self.drawings(web, base, order, CORNERS):
                spots = [spot(point) for point in told]
                self.assertEqual(web_of_points(spots, pairs_of(web)), web)
                self.assertEqual(turned(web, told), web)
                self.assertEqual(meetings(web, told), [])
                self.assertIsNone(judged(web, told))
                self.assertEqual(outer(web, told), outer_of(base))
                for face in faces_of(web):
                    p, q, r = face
                    self.assertEqual(bends(told, face), face != outer_of(base))
                    self.assertEqual(side(spots[p], spots[q], spots[r]) > 0, face != outer_of(base))

    def test_mirrored_turns_are_told(self):
        for chance, web, base, order in self.cases():
            for told in self.drawings(web, base, order, CORNERS):
                self.assertEqual(judged(mirrored(web), told), ("turn", 0))

    def test_renamed_places_are_drawn_alike(self):
        for chance, web, base, order in self.cases():
            names = chance.sample(range(len(web)), len(web))
            there = self.drawings(web, base, order, CORNERS, names)
            for told, again in zip(self.drawings(web, base, order, CORNERS), there):
                self.assertEqual(tuple(again[names[p]] for p in range(len(web))), told)
            self.assertEqual(renamed(web, tuple(names)), renamed_by(web, names))

    def test_faces_wider_than_three_at_rest(self):
        rim = (1, 4, 3, 2)
        told = at_rest(WHEEL, rim, ((0, 0), (0, 4), (4, 4), (4, 0)), {})
        self.assertEqual(told[0], ((2, 1), (2, 1)))
        self.assertEqual([face for face in faces(WHEEL) if not bends(told, face)], [rim])


class TestRefusals(Refusing):
    # What is handed in, with the refusal that is due for it.
    WEBS = [(errors.NotFlat, TWISTED), (errors.NotCornered, ring(4)), (None, FOUR)]
    BASES = [(errors.NoBase, ()), (errors.NoBase, (0, 2, 1)), (errors.NoBase, (False, 1, 2)), (None, BASE)]
    ORDERS = [(errors.NoOrder, ()), (errors.NoOrder, (0, 1, 2, 3)), (None, ORDER)]
    WOODS = [(errors.NoWoods, ()), (errors.NoWoods, ((), (), (), (1, 0, 2))), (None, FOURS)]
    WEIGHTS = [
        (errors.NoWeights, {(0, 2, 1): 1}), (errors.NoWeights, {(0, 1, 3): True}), (None, {}), (None, {(0, 1, 3): 2}),
    ]
    THINGS = [(None, None), (None, ()), (None, ORDER), (None, FOURS)]
    PLACES = [(None, 3)]
    WAYS = [(None, 0), (None, 2)]
    TIED = [(errors.NotFlat, TWISTED), (errors.NotTied, ring(4)), (None, FOUR)]
    RIMS = [(errors.NoRim, ()), (errors.NoRim, (0, 1, 2)), (None, RIM)]
    ENDS = [(errors.NoCorners, ()), (errors.NoCorners, CORNERS[::-1]), (None, CORNERS)]
    PULLS = [(errors.NoWeights, {(0, 1): 1}), (errors.NoWeights, {(3, 1): 0}), (None, {}), (None, {(3, 1): 2})]

    def test_the_first_in_errors_is_met(self):
        table = [
            (order_of, self.WEBS, self.BASES), (is_order, self.WEBS, self.BASES, self.THINGS),
            (rounds, self.WEBS, self.BASES, self.ORDERS), (stretches, self.WEBS, self.BASES, self.ORDERS),
            (grids, self.WEBS, self.BASES, self.ORDERS), (grid, self.WEBS, self.BASES, self.ORDERS),
            (is_woods, self.WEBS, self.BASES, self.THINGS), (woods_of, self.WEBS, self.BASES, self.ORDERS),
            (way, self.WEBS, self.BASES, self.WOODS, self.PLACES, self.WAYS),
            (goes_along, self.WEBS, self.BASES, self.WOODS, self.ORDERS),
            (order_along, self.WEBS, self.BASES, self.WOODS),
            (lands, self.WEBS, self.BASES, self.WOODS, self.PLACES),
            (counts, self.WEBS, self.BASES, self.WOODS, self.WEIGHTS, self.PLACES),
            (counted, self.WEBS, self.BASES, self.WOODS, self.WEIGHTS),
            (at_rest, self.TIED, self.RIMS, self.ENDS, self.PULLS),
        ]
        for deed, *choices in table:
            for some in itertools.product(*choices):
                due = [kind for kind, handed in some if kind is not None]
                handed = [one for kind, one in some]
                if due:
                    self.taken(min(due, key=REFUSALS.index), deed, *handed)
                else:
                    deed(*handed)

    def test_of_ties_and_drawings(self):
        self.taken(errors.NoFace, put_in, FOUR, (0, 0), (0, 0))
        self.taken(errors.NoFace, put_in, FOUR, (0, 1), (1, 0))
        self.assertEqual(self.taken(errors.Doubled, put_in, FOUR, (0, 1), (1, 3)).tie, (0, 1))
        self.assertEqual(self.taken(errors.NoTie, taken_out, chain(3), (1, 0)).tie, (1, 0))
        self.assertEqual(self.taken(errors.Parted, taken_out, chain(3), (0, 1)).tie, (0, 1))
        # Places alike, and neighbours in one direction.
        both = drawing_of([(0, 0), (1, 0), (2, 0), (2, 0)])
        self.assertEqual(self.taken(errors.Alike, turned, FOUR, both).places, (2, 3))
        self.assertEqual(self.taken(errors.Folded, turned, FOUR, drawing_of([(0, 0), (1, 0), (2, 0), (1, 5)])).place, 0)

    def test_the_classes(self):
        named = """NoText NotFlat NotTied NotCornered NoRim NoCorners NoBase NoOrder NoWoods NoWeights NoFace Doubled
            NoTie Parted Alike Folded""".split()
        self.assertEqual([kind.__name__ for kind in REFUSALS], named)
        for kind in REFUSALS:
            self.assertEqual(kind.__bases__, (errors.DrawError,))
        self.assertEqual(errors.DrawError.__bases__, (ValueError,))


if __name__ == "__main__":
    unittest.main()
