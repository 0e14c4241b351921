import itertools
import random
import unittest

from restdraw.anyflat import drawn
from restdraw.errors import NotFlat
from restdraw.grids import as_points
from restdraw.judging import judged
from restdraw.pictures import picture, read_picture
from tests.helper import (
    BOW, CHAIN, FOUR, SEVEN, TRIANGLE, TWISTED, Refusing, all_tied, any_meet, chain, cycles, faces_of, flat_by_count,
    flat_webs, hangs, mirrored_plainly, other_webs, pairs_of, random_flat, renamed_by, ring, star, three_cornered,
    three_tied, web_of_points, wheel,
)


def random_tree(seed, many):
    """A web of one face alone: each new place hangs at one that is there."""
    chance = random.Random(seed)
    rows = [[]]
    for p in range(1, many):
        at = chance.randrange(max(0, p - 1 - seed % 7), p)
        rows[at].insert(chance.randrange(len(rows[at]) + 1), p)
        rows.append([at])
    return tuple(tuple(row[row.index(min(row)):] + row[:row.index(min(row))]) for row in rows)


def hung_on(seed, web, many):
    """The web with some more places, each with one neighbour alone, in any corner."""
    chance = random.Random(seed)
    rows = [list(row) for row in web]
    while len(rows) < many:
        at = chance.randrange(len(rows))
        rows[at].insert(chance.randrange(len(rows[at])) + 1, len(rows))
        rows.append([at])
    return tuple(tuple(row) for row in rows)


def all_webs(many):
    """All webs of so many places, but those with more ties than a flat one can have."""
    pairs = list(itertools.combinations(range(many), 2))
    for count in range(many - 1, 3 * many - 5):
        for some in itertools.combinations(pairs, count):
            if hangs(many, some):
                rows = [sorted(sum(tie) - p for tie in some if p in tie) for p in range(many)]
                turns = [[(row[0],) + rest for rest in itertools.permutations(row[1:])] for row in rows]
                yield from itertools.product(*turns)


class TestDrawn(Refusing):
    def look_over(self, web):
        many = len(web)
        told = drawn(web)
        self.assertIsInstance(told, tuple)
        self.assertEqual(len(told), many)
        for spot in told:
            self.assertEqual((type(spot), len(spot)), (tuple, 2))
            x, y = spot
            self.assertEqual((type(x), type(y)), (int, int))
            self.assertIn(x, range(2 * many - 3))
            self.assertIn(y, range(many - 1))
        self.assertIsNone(judged(web, as_points(told)))
        return told

    def look_closely(self, web):
        """Held against other words for what the judge tells."""
        told = self.look_over(web)
        self.assertFalse(any_meet(told, pairs_of(web)))
        self.assertEqual(web_of_points(told, pairs_of(web)), web)
        self.assertEqual(drawn(web), told)

    def test_few_places(self):
        for web in (TRIANGLE, CHAIN, FOUR, BOW, star(4), chain(4), ring(4)):
            self.look_closely(web)
        self.assertEqual(sorted(drawn(TRIANGLE)), [(0, 0), (1, 1), (2, 0)])
        self.assertEqual(sorted(drawn(CHAIN)), [(0, 0), (1, 1), (2, 0)])

    def test_all_webs_of_few_places(self):
        flat = {3: 0, 4: 0, 5: 0}
        for many in flat:
            for web in all_webs(many):
                if flat_by_count(web):
                    self.look_over(web)
                    flat[many] += 1
                elif many < 5:
                    self.assertEqual(self.taken(NotFlat, drawn, web).faces, len(cycles(web)))
        self.assertEqual(flat, {3: 4, 4: 61, 5: 2332})

    def test_all_sorts(self):
        for web in flat_webs():
            self.look_closely(web)

    def test_each_size(self):
        for many in range(3, 41):
            for web in (star(many), chain(many), ring(many), random_tree(many, many), three_cornered(many, many)):
                self.look_over(web)
            if many > 3:
                self.look_over(wheel(many))

    def test_faces_of_any_length(self):
        lengths = set()
        for seed in range(60):
            web = random_flat(seed + 300, 3 + seed % 38, seed % 8)[1]
            lengths.update(len(face) for face in faces_of(web))
            self.look_over(web)
        self.assertGreaterEqual(lengths, set(range(3, 9)))
        self.assertGreater(max(lengths), 60)

    def test_places_with_one_neighbour(self):
        for seed in range(40):
            base = (TRIANGLE, FOUR, ring(5), wheel(6), BOW, three_tied(seed, 8, 3))[seed % 6]
            web = hung_on(seed, base, min(40, len(base) + 1 + seed))
            self.look_over(web)
            self.look_over(mirrored_plainly(web))

    def test_trees(self):
        for seed in range(60):
            self.look_over(random_tree(seed, 3 + seed % 38))

    def test_three_tied(self):
        for seed in range(30):
            self.look_over(three_tied(seed, 4 + seed % 12, seed % 9))

    def test_renamed_is_drawn_too(self):
        for seed in range(20):
            web = random_flat(seed, 5 + seed, 5)[1]
            names = random.Random(seed).sample(range(len(web)), len(web))
            self.look_over(renamed_by(web, names))

    def test_pictures(self):
        for web in flat_webs():
            self.assertEqual(read_picture(picture(drawn(web))), drawn(web))

    def test_not_flat(self):
        for web in other_webs() + [TWISTED, SEVEN, all_tied(5), all_tied(40)]:
            self.assertEqual(self.taken(NotFlat, drawn, web).faces, len(cycles(web)))

    def test_what_is_handed_in_stays(self):
        web = random_flat(7, 20, 4)[1]
        drawn(web)
        self.assertEqual(web, random_flat(7, 20, 4)[1])


if __name__ == "__main__":
    unittest.main()
