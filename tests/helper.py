"""Webs, orders, woods and drawings for the tests, made without the program; and how refusals are looked at."""

import itertools
import random
import re
import unittest
from fractions import Fraction
from functools import cmp_to_key
from math import gcd

from restdraw import errors

TRIANGLE = ((1, 2), (0, 2), (0, 1))
CHAIN = ((1,), (0, 2), (1,))
# Four places all tied, the last one amid the others, rows to the left.
FOUR = ((1, 3, 2), (0, 2, 3), (0, 3, 1), (0, 1, 2))
# Its one woods by the base (0, 1, 2).
FOURS = ((), (), (), (0, 1, 2))
# Four places all tied, rows sorted: not flat.
TWISTED = ((1, 2, 3), (0, 2, 3), (0, 1, 3), (0, 1, 2))
# Seven places all tied, drawn on a ring: each face has three places, yet it is not flat.
SEVEN = tuple(
    (lambda row: row[row.index(min(row)):] + row[:row.index(min(row))])(
        tuple((p + by) % 7 for by in (1, 3, 2, 6, 4, 5))
    )
    for p in range(7)
)
# Two rounds of three places with one place in common.
BOW = ((1, 2, 3, 4), (0, 2), (0, 1), (0, 4), (0, 3))

ANYTHING = [
    None, True, False, 0, 1, -1, 10 ** 5000, "", "0", "\n", "abc", b"", b"0", (), [], {}, set(), frozenset(),
    (1,), [1], {1: 2}, {"0": 1}, object(), int, len, range(3), iter(()), NotImplemented, Ellipsis, ValueError("x"),
    ((),), ((), (), ()), "\ud800", "\u0663", "\u00b2", "\x00",
]


def least_first(row):
    at = row.index(min(row))
    return tuple(row[at:]) + tuple(row[:at])


def star(many):
    return (tuple(range(1, many)),) + ((0,),) * (many - 1)


def chain(many):
    return tuple(tuple(q for q in (p - 1, p + 1) if 0 <= q < many) for p in range(many))


def ring(many):
    return tuple(tuple(sorted({(p - 1) % many, (p + 1) % many})) for p in range(many))


def wheel(many):
    """Place 0 amid a ring of the others, which go round it to the left."""
    outer = many - 1
    rows = [tuple(range(1, many))]
    for p in range(outer):
        rows.append(least_first([(p + 1) % outer + 1, 0, (p - 1) % outer + 1]))
    return tuple(rows)


def all_tied(many):
    return tuple(tuple(q for q in range(many) if q != p) for p in range(many))


def cross(one, other):
    return one[0] * other[1] - one[1] * other[0]


def away(start, end):
    return (end[0] - start[0], end[1] - start[1])


def side(p, q, r):
    """Above 0 where r lies at the left hand on the way from p to q."""
    return cross(away(p, q), away(p, r))


def turn_key(points, place):
    """Sorts places by their direction from this one, to the left."""

    def half(q):
        x, y = away(points[place], points[q])
        return 0 if y > 0 or (y == 0 and x > 0) else 1

    def compare(q, r):
        if half(q) != half(r):
            return half(q) - half(r)
        return -side(points[place], points[q], points[r])

    return cmp_to_key(compare)


def web_of_points(points, pairs):
    """The web of these ties, turned as they are drawn."""
    rows = [[] for _ in points]
    for p, q in pairs:
        rows[p].append(q)
        rows[q].append(p)
    return tuple(least_first(sorted(row, key=turn_key(points, p))) for p, row in enumerate(rows))


def lies_on(points, tie, place):
    start, end, at = points[tie[0]], points[tie[1]], points[place]
    if side(start, end, at) != 0:
        return False
    return min(start, end) <= at <= max(start, end)


def meet(points, one, other):
    """Whether two ties have a point in common beside a common end, none of them leading over other places."""
    if set(one) & set(other):
        return False
    a, b, c, d = points[one[0]], points[one[1]], points[other[0]], points[other[1]]
    return side(a, b, c) * side(a, b, d) < 0 and side(c, d, a) * side(c, d, b) < 0


def hangs(many, pairs, without=()):
    """Whether the places left hang together by these ties, by joining groups."""
    group = list(range(many))
    for p, q in pairs:
        if p not in without and q not in without:
            old, new = group[p], group[q]
            group = [new if one == old else one for one in group]
    return len({group[p] for p in range(many) if p not in without}) <= 1


def random_flat(seed, many, share):
    """Points and a flat web of so many places; about that share (of ten) of the needless ties is left in it."""
    chance = random.Random(seed)
    spots = [(x, y) for x in range(12) for y in range(12)]
    points = chance.sample(spots, many)
    wished = [(p, q) for p in range(many) for q in range(p + 1, many)]
    chance.shuffle(wished)
    pairs = []
    for tie in wished:
        if any(lies_on(points, tie, p) for p in range(many) if p not in tie):
            continue
        if not any(meet(points, tie, other) for other in pairs):
            pairs.append(tie)
    for tie in list(pairs):
        rest = [one for one in pairs if one != tie]
        if chance.randrange(10) >= share and hangs(many, rest):
            pairs = rest
    return points, web_of_points(points, pairs)


def pairs_of(web):
    return sorted({(min(p, q), max(p, q)) for p, row in enumerate(web) for q in row})


def flat_webs():
    """Some flat webs of all sorts, up to 40 places."""
    webs = [TRIANGLE, CHAIN, FOUR, BOW]
    for many in (3, 4, 5, 7, 12, 40):
        webs += [star(many), chain(many), ring(many)]
    webs += [wheel(many) for many in (4, 5, 6, 9, 40)]
    for seed in range(30):
        webs.append(random_flat(seed, 3 + seed % 12, seed % 11)[1])
    webs += [random_flat(seed, 40, share)[1] for seed, share in ((100, 0), (101, 3), (102, 7), (103, 10))]
    return webs


def other_webs():
    """Some webs that are not flat."""
    webs = [TWISTED, SEVEN] + [all_tied(many) for many in (5, 6, 9)]
    for seed in range(200):
        chance = random.Random(seed)
        web = random_rows(chance, chance.randrange(5, 11))
        if web is not None and not flat_by_count(web):
            webs.append(web)
    return webs


def random_rows(chance, many):
    """Any ties, any turns: a web, or None where it doesn't hang together."""
    pairs = [(p, q) for p in range(many) for q in range(p + 1, many) if chance.randrange(3) == 0]
    if not hangs(many, pairs):
        return None
    rows = [[] for _ in range(many)]
    for p, q in pairs:
        rows[p].append(q)
        rows[q].append(p)
    for row in rows:
        chance.shuffle(row)
    return tuple(least_first(row) for row in rows)


def follows(web, step):
    p, q = step
    return (q, web[q][(web[q].index(p) - 1) % len(web[q])])


def cycles(web):
    """The sets of steps that go round one face."""
    steps = {(p, q) for p, row in enumerate(web) for q in row}
    found = []
    while steps:
        step = start = min(steps)
        steps_here = []
        while True:
            steps_here.append(step)
            steps.discard(step)
            step = follows(web, step)
            if step == start:
                break
        found.append(steps_here)
    return found


def flat_by_count(web):
    return len(web) + len(cycles(web)) - len(pairs_of(web)) == 2


def plainly_web(thing):
    """Said again in other words, to be held against the program."""
    if not isinstance(thing, tuple) or len(thing) < 3:
        return False
    for p, row in enumerate(thing):
        if not isinstance(row, tuple) or not row:
            return False
        for q in row:
            if type(q) is not int or q == p or not 0 <= q < len(thing):
                return False
        if sorted(set(row)) != sorted(row) or row[0] != min(row):
            return False
    for p, row in enumerate(thing):
        for q in row:
            if p not in thing[q]:
                return False
    return hangs(len(thing), pairs_of(thing))


def three_tied_by_groups(web):
    """Said again in other words, to be held against the program."""
    many = len(web)
    without = [(p,) for p in range(many)] + [(p, q) for p in range(many) for q in range(p)]
    return many >= 4 and all(hangs(many, pairs_of(web), some) for some in without)


def put_before(row, place, added):
    at = row.index(place)
    return row[:at] + [added] + row[at:]


def put_amid(rows, face):
    """One more place amid a face of three, tied to each of it."""
    p, q, r = face
    added = len(rows)
    for before, here in ((p, q), (q, r), (r, p)):
        rows[here] = put_before(rows[here], before, added)
    rows.append([p, q, r])


def exchange(rows, p, q):
    """The tie between two faces of three exchanged for that between the two other places, where there is none."""
    r, s = follows(rows, (p, q))[1], follows(rows, (q, p))[1]
    if r == s or s in rows[r]:
        return
    rows[r] = put_before(rows[r], q, s)
    rows[s] = put_before(rows[s], p, r)
    rows[p].remove(q)
    rows[q].remove(p)


def three_cornered(seed, many):
    """A web of so many places, three at least, each face of which has three places."""
    chance = random.Random(seed)
    rows = [list(row) for row in TRIANGLE]
    while len(rows) < many:
        face = [p for p, q in chance.choice(cycles(rows))]
        put_amid(rows, face)
        for _ in range(chance.randrange(len(rows))):
            p = chance.randrange(len(rows))
            if len(rows[p]) > 3:
                q = chance.choice(rows[p])
                if len(rows[q]) > 3:
                    exchange(rows, p, q)
    return tuple(least_first(row) for row in rows)


def without_tie(web, tie):
    return tuple(least_first([q for q in row if {p, q} != set(tie)]) for p, row in enumerate(web))


def three_tied(seed, many, share):
    """A flat, three tied web; ties that it can do without are left in it by about that share (of ten)."""
    chance = random.Random(seed)
    web = three_cornered(seed, many)
    for tie in chance.sample(pairs_of(web), len(pairs_of(web))):
        p, q = tie
        if min(len(web[p]), len(web[q])) > 3 and chance.randrange(10) >= share:
            left = without_tie(web, tie)
            if three_tied_by_groups(left):
                web = left
    return web


def renamed_by(web, names):
    rows = [None] * len(web)
    for p, row in enumerate(web):
        rows[names[p]] = least_first([names[q] for q in row])
    return tuple(rows)


def mirrored_plainly(web):
    return tuple(least_first(row[::-1]) for row in web)


def faces_of(web):
    """The faces, each from its least step on, sorted."""
    return sorted(tuple(p for p, q in steps) for steps in cycles(web))


def bases_of(web):
    """The bases of a three-cornered web: each face told backwards, from each of its places on."""
    backwards = [face[::-1] for face in faces_of(web)]
    return sorted(face[at:] + face[:at] for face in backwards for at in range(3))


def corners_of(web):
    """Each face of three, from each of its steps on."""
    return {face[at:] + face[:at] for face in faces_of(web) for at in range(3)}


def laid_plainly(web, base, order):
    """The stretches and rounds, straight as the words go, or None where it is no order."""
    a, b, c = base
    if sorted(order) != list(range(len(web))) or order[:2] != (a, b) or order[-1] != c:
        return None
    corners = corners_of(web)
    around, parts, tops = (a, b), [], [(a, b)]
    for k, v in enumerate(order):
        if k < 2:
            continue
        ahead = set(order[:k]) & set(web[v])
        slices = [around[i:j] for i in range(len(around)) for j in range(i + 2, len(around) + 1)]
        fitting = [part for part in slices if set(part) == ahead]
        if not fitting:
            return None
        part = fitting[0]
        if any((x, y, v) not in corners for x, y in zip(part, part[1:])):
            return None
        left, right = around.index(part[0]), around.index(part[-1])
        around = around[:left + 1] + (v,) + around[right:]
        parts.append(part)
        tops.append(around)
    return tuple(parts), tuple(tops)


def any_order(chance, web, base):
    """An order, built from its last place on: any place of the round that is tied to just two of it is taken off."""
    a, b, c = base
    around, off = [a, c, b], []
    while len(around) > 2:
        loose = [p for p in around if p not in (a, b) and len(set(web[p]) & set(around)) == 2]
        place = chance.choice(loose)
        at = around.index(place)
        row = web[place] * 2
        start = row.index(around[at - 1])
        shown = row[start:start + row[start:].index(around[at + 1]) + 1]
        around[at - 1:at + 2] = shown
        off.append(place)
    return (a, b) + tuple(off[::-1])


def cornered_cases(seed=0, most=40):
    """Three-cornered webs of three to forty places, each with a base and an order."""
    for many in range(3, most + 1):
        chance = random.Random(1000 * seed + many)
        web = three_cornered(1000 * seed + many, many)
        base = chance.choice(bases_of(web))
        yield web, base, any_order(chance, web, base)


def outer_of(base):
    """The outer face, as faces are told."""
    a, b, c = base
    return least_first((a, c, b))


def have_in_common(points, one, other):
    """Whether two straight ties of unlike points have any point in common that is not the end of both."""
    shared = set(one) & set(other)
    a, b, c, d = points[one[0]], points[one[1]], points[other[0]], points[other[1]]
    ends = [lies_on(points, one, p) for p in other if p not in shared]
    ends += [lies_on(points, other, p) for p in one if p not in shared]
    if any(ends):
        return True
    return not shared and side(a, b, c) * side(a, b, d) < 0 and side(c, d, a) * side(c, d, b) < 0


def any_meet(points, pairs):
    """Whether places stand alike, or any two of these ties meet."""
    spots = [points[p] for p in sorted({p for tie in pairs for p in tie})]
    if len(set(spots)) < len(spots):
        return True
    return any(have_in_common(points, one, other) for one, other in itertools.combinations(pairs, 2))


def wrong_orders(order):
    """Tuples that are no orders, in place of this one."""
    yield from [(), order[:-1], order[1:], order + order[-1:], order + (len(order),), order[:1], order * 2]
    yield from [order[::-1], (order,), tuple((p,) for p in order), tuple(str(p) for p in order)]
    yield tuple(-1 if p == 0 else p for p in order)
    yield tuple(p - len(order) for p in order)
    yield tuple(len(order) if p == 0 else p for p in order)
    yield tuple(10 ** 5000 if p == 0 else p for p in order)
    yield tuple(bool(p) if p < 2 else p for p in order)
    yield tuple(True if p == 1 else p for p in order)
    yield tuple(False if p == 0 else p for p in order)
    yield tuple(None if p == 2 else p for p in order)
    yield tuple([p] if p == 2 else p for p in order)
    yield tuple({} if p == 2 else p for p in order)
    for at in range(len(order)):
        others = [-1, order[at] - len(order), len(order), 10 ** 5000, order[at - 1], order[0], order[-1]]
        for other in others:
            if other != order[at]:
                yield order[:at] + (other,) + order[at + 1:]


def outs_plainly(web, base, order):
    """The woods of an order, straight as the words go."""
    parts = dict(zip(order[2:], laid_plainly(web, base, order)[0]))
    rows = []
    for p in range(len(web)):
        if p in base:
            rows.append(())
        else:
            over = [v for v, part in parts.items() if p in part[1:-1]]
            assert len(over) == 1
            rows.append((parts[p][0], parts[p][-1], over[0]))
    return tuple(rows)


def plainly_woods(web, base, thing):
    """Said again in other words, to be held against the program."""
    if type(thing) is not tuple or len(thing) != len(web):
        return False
    for p, row in enumerate(thing):
        if type(row) is not tuple or len(row) != (0 if p in base else 3):
            return False
        if any(type(q) is not int for q in row) or len(set(row)) < len(row) or not set(row) <= set(web[p]):
            return False
    for p, q in pairs_of(web):
        if not (p in base and q in base) and [q in thing[p], p in thing[q]].count(True) != 1:
            return False
    for k, corner in enumerate(base):
        if any(thing[q].index(corner) != k for q in web[corner] if q not in base):
            return False
    for p, row in enumerate(web):
        if p not in base:
            around = least_first([(q - thing[p][0]) % len(web) for q in row])
            named = [(q + thing[p][0]) % len(web) for q in around]
            signs = ["ABC"[thing[p].index(q)] if q in thing[p] else "abc"[thing[q].index(p)] for q in named]
            if not re.fullmatch("Ac*Ba*Cb*", "".join(signs)):
                return False
    return True


def lands_plainly(web, base, woods, place):
    """The lands by joining faces to groups, straight as the words go."""
    walls = {frozenset(pair) for pair in itertools.combinations(base, 2)}
    for k in range(3):
        here = place
        while here not in base:
            walls.add(frozenset((here, woods[here][k])))
            here = woods[here][k]
    left = {step: face for face in faces_of(web) for step in zip(face, face[1:] + face[:1])}
    group = {face: {face} for face in faces_of(web)}
    for p, q in pairs_of(web):
        if frozenset((p, q)) not in walls:
            joined = group[left[p, q]] | group[left[q, p]]
            group.update(dict.fromkeys(joined, joined))
    a, b, c = base
    return tuple(sorted(group[left[step]]) for step in ((b, c), (c, a), (a, b)))


def with_row(rows, place, row):
    return rows[:place] + (row,) + rows[place + 1:]


def wrong_woods(web, base, woods):
    """Tuples that are no woods, in place of these."""
    many = len(web)
    yield from [woods[:-1], woods[1:], woods + ((),), woods + woods, (woods,), tuple(list(row) for row in woods)]
    yield from [((),) * (many + 1), ((),) * (many - 1), (None,) * many, ([],) * many, ("",) * many, (0,) * many]
    yield ()
    if many > 3:
        yield ((),) * many
    for p, row in enumerate(woods):
        if p in base:
            others = [web[p][:1], web[p][:2], web[p][:3], (p,), [], "", None, 0, False, {}, ((),), (None, None, None)]
        else:
            others = exchanged_rows(web, p, row)
        for other in others:
            yield with_row(woods, p, other)


def exchanged_rows(web, p, row):
    """Rows that can't stand in place of this one."""
    first, second, third = row
    others = [
        (), row[:1], row[:2], row[1:], row + row[:1], row + (p,), list(row), str(row), None, 0, dict.fromkeys(row),
        (second, first, third), (first, third, second), (third, second, first), row[1:] + row[:1], row[2:] + row[:2],
        (first, first, third), (first, second, second), (third, second, third), row[:1] * 3, (row,),
        (first, second, p), (p, second, third), (first, p, third), (first, second, -1), (first, second, len(web)),
        tuple(q - len(web) for q in row), row[:2] + (third - len(web),), (first - len(web),) + row[1:],
        row[:2] + (10 ** 5000,), row[:2] + (None,), row[:2] + (str(third),), row[:2] + ((third,),),
        ([first],) + row[1:], ({},) + row[1:],
    ]
    for at, q in enumerate(row):
        if q in (0, 1):
            others.append(row[:at] + (q == 1,) + row[at + 1:])
        for other in range(len(web)):
            if other not in web[p]:
                others.append(row[:at] + (other,) + row[at + 1:])
    return others


def bowl(many, far=10 ** 6 - 1):
    """So many corners, on a bowl's wall, that bend strictly to the right; their numbers have up to 12 figures."""
    return tuple((x, x * x - far) for x in [far - 7 * p for p in range(many)])


def step_weights(chance, web, rim, share):
    """Weights of about that share (of ten) of the steps from inner places."""
    return {
        (p, q): chance.choice((1, 2, 7, 1000000, chance.randrange(1, 1000001)))
        for p, row in enumerate(web) for q in row if p not in rim and chance.randrange(10) < share
    }


def number(pair):
    """A fraction, looked at whether it is one."""
    assert isinstance(pair, tuple) and len(pair) == 2, pair
    n, d = pair
    assert type(n) is int and type(d) is int and d >= 1 and gcd(n, d) == 1, pair
    return Fraction(n, d)


def spot(point):
    """A point, looked at whether it is one."""
    assert isinstance(point, tuple) and len(point) == 2, point
    return (number(point[0]), number(point[1]))


def pair_of(one):
    """What the program takes for this number."""
    one = Fraction(one)
    return (one.numerator, one.denominator)


def drawing_of(spots):
    return tuple((pair_of(x), pair_of(y)) for x, y in spots)


# No bases of FOUR.
WRONG_BASES = [
    (), (0,), (0, 1), (0, 1, 2, 3), (0, 2, 1), (1, 0, 2), (0, 1, 3), (0, 1, 4), (-4, 1, 2), (0, 1, -2),
    (0, True, 2), (False, 1, 2), (0, 1, None), (0, 1, "2"), ((0, 1, 2),), ([0], 1, 2), (0, 0, 0),
    (10 ** 5000, 1, 2), (0, 1, {}),
]

REFUSALS = [
    thing for thing in vars(errors).values()
    if isinstance(thing, type) and issubclass(thing, errors.DrawError) and thing is not errors.DrawError
]


class Refusing(unittest.TestCase):
    def taken(self, kind, ask, *handed):
        """The refusal that comes of it, looked at whether it is this one and no other."""
        with self.assertRaises(kind) as taken:
            ask(*handed)
        for other in REFUSALS:
            self.assertEqual(isinstance(taken.exception, other), other is kind)
        self.assertIsInstance(taken.exception, errors.DrawError)
        self.assertIsInstance(taken.exception, ValueError)
        return taken.exception

    def refuse_webs_and_bases(self, asks):
        """Each ask is of a web and a base; other things that it hands in may be wrong too."""
        unflat = {web: len(cycles(web)) for web in other_webs()[:20] + [TWISTED, SEVEN]}
        wide = {web: [face for face in faces_of(web) if len(face) != 3][:1] for web in flat_webs()}
        for ask in asks:
            for base in ((), (0, 1, 2)):
                for web, many in unflat.items():
                    self.assertEqual(self.taken(errors.NotFlat, ask, web, base).faces, many)
                for web, face in wide.items():
                    if face:
                        self.assertEqual(self.taken(errors.NotCornered, ask, web, base).face, face[0])
            self.assertEqual(self.taken(errors.NotCornered, ask, ring(4), (0, 1, 2)).face, (0, 1, 2, 3))
            self.assertEqual(self.taken(errors.NotCornered, ask, CHAIN, (0, 1, 2)).face, (0, 1, 2, 1))
            for base in WRONG_BASES:
                self.taken(errors.NoBase, ask, FOUR, base)
