import itertools
import random
import unittest

from restdraw.errors import NoText
from restdraw.grids import grid
from restdraw.pictures import picture, read_picture
from tests.helper import ANYTHING, Refusing, cornered_cases

SIGNS = "abcdefghijklmnopqrstuvwxyzABCDEFGHIJKLMN"
SOME = ((0, 0), (4, 0), (2, 2), (2, 1))
TEXT = "..c..\n..d..\na...b\n"


def drawn_plainly(some):
    """The picture, sign by sign put into lines of dots."""
    lines = [["."] * (max(x for x, y in some) + 1) for _ in range(max(y for x, y in some) + 1)]
    for p, (x, y) in enumerate(some):
        lines[-1 - y][x] = SIGNS[p]
    return "".join("".join(line) + "\n" for line in lines)


def read_plainly(text):
    """Said again in other words: the places, or None where it is no picture."""
    if not isinstance(text, str) or not text.endswith("\n") or set(text) - set(SIGNS + ".\n"):
        return None
    lines = text[:-1].split("\n")
    signs = sorted((SIGNS.index(sign) for sign in text if sign in SIGNS))
    if len({len(line) for line in lines}) != 1 or len(lines) > 41 or len(lines[0]) > 77:
        return None
    if signs != list(range(len(signs))) or len(signs) < 3:
        return None
    if not set(lines[0]) - {"."} or not {line[-1] for line in lines} - {"."}:
        return None
    spots = {sign: (x, len(lines) - 1 - y) for y, line in enumerate(lines) for x, sign in enumerate(line)}
    return tuple(spots[SIGNS[p]] for p in signs)


def any_spots(seed):
    """Three to forty unlike spots within the bounds."""
    chance = random.Random(seed)
    many = 3 + seed % 38
    wide, high = chance.choice(((76, 40), (chance.randrange(8, 77), chance.randrange(6, 41)), (76, 0), (40, 1)))
    spots = [(x, y) for x in range(wide + 1) for y in range(high + 1)]
    return tuple(chance.sample(spots, many))


class TestPicture(unittest.TestCase):
    def test_some(self):
        self.assertEqual(picture(SOME), TEXT)
        self.assertEqual(picture(((0, 0), (1, 0), (2, 0))), "abc\n")
        self.assertEqual(picture(((0, 0), (0, 1), (0, 2))), "c\nb\na\n")
        self.assertEqual(picture(((1, 1), (2, 3), (3, 2))), "..b.\n...c\n.a..\n....\n")

    def test_room_below_and_at_the_left(self):
        self.assertEqual(picture(((1, 1), (2, 1), (1, 2))), ".c.\n.ab\n...\n")
        self.assertEqual(read_picture(".c.\n.ab\n...\n"), ((1, 1), (2, 1), (1, 2)))

    def test_forty_places(self):
        some = tuple((p, 0) for p in range(40))
        self.assertEqual(picture(some), SIGNS + "\n")
        self.assertEqual(read_picture(SIGNS + "\n"), some)
        up = tuple((0, p) for p in range(40))
        self.assertEqual(picture(up), "".join(sign + "\n" for sign in SIGNS[::-1]))
        self.assertEqual(read_picture(picture(up)), up)

    def test_there_and_back(self):
        for seed in range(200):
            some = any_spots(seed)
            text = picture(some)
            self.assertEqual(text, drawn_plainly(some))
            self.assertEqual(read_plainly(text), some)
            told = read_picture(text)
            self.assertIsInstance(told, tuple)
            self.assertEqual(told, some)
            for spot in told:
                self.assertEqual((type(spot), len(spot)), (tuple, 2))

    def test_the_bounds(self):
        some = ((76, 40), (0, 0), (76, 0))
        text = picture(some)
        self.assertEqual(len(text), 78 * 41)
        self.assertEqual(read_picture(text), some)
        self.assertEqual(read_picture(picture(some + ((0, 40),))), some + ((0, 40),))

    def test_grids(self):
        for web, base, order in cornered_cases(80):
            told = grid(web, base, order)
            self.assertEqual(read_picture(picture(told)), told)


class TestReadPicture(Refusing):
    def test_some(self):
        self.assertEqual(read_picture(TEXT), SOME)

    def test_no_pictures(self):
        wide = "." * 37
        wrong = [
            "", "\n", "\n\n", ".\n", "...\n", "abc", "abc\n\n", "\nabc\n", "abc\n ", "abc ", "abc\r\n", "abc\n\x00",
            # Lines of unlike length.
            "..c.\n..d..\na...b\n", "..c..\n..d.\na...b\n", "..c..\n..d..\na...b.\n", "..c..\n..d...\na...b\n",
            "..c\n..d..\na...b\n", "..c..\n\n..d..\na...b\n", "c\nab\n", "ab\nc\n", "c.\nab\n\n",
            # A sign too many, twice or lacking.
            "..c..\n..d.f\na...b\n", "..c..\n..d.d\na...b\n", "..c..\n..d.a\na...b\n", "..c..\n.....\nd...b\n",
            "..c..\n..e..\na...b\n", "..d..\n..e..\na...b\n", "b.c\n..d\n", "aab\n", "aabc\n", "abcN\n", "abd\n",
            "bcd\n", "abca\n", "abcc\n", "abcABC\n", "ABC\n", "abcA\n",
            # No line feed at the end, or two.
            TEXT[:-1], TEXT + "\n", TEXT + ".", TEXT + ".....", "\n" + TEXT,
            # A first line of dots, a last column of dots.
            ".....\n" + TEXT, "..c...\n..d...\na...b.\n", "abc.\n", "...\nabc\n", ".\nc\nb\na\n", "c.\nb.\na.\n",
            # Fewer than three places.
            "a\n", "ab\n", "a.b\n", "b\na\n", ".b\na.\n",
            # More than 77 signs, or 41 lines.
            "a" + wide + "b" + wide + ".c\n", "a" + wide * 2 + "..b\nc" + wide * 2 + "...\n",
            "c\n" + ".\n" * 39 + "a\nb\n", "c" + "\n." * 41 + "\n", "c.\n" + "..\n" * 40 + "ab\n",
            "abc" + "." * 74 + ".d\n",
            # Other signs.
            "ab c\n", "abc\t\n", "abcO\n", "abcZ\n", "abc0\n", "abc-\n", "abc,\n", "abc:\n", "a b\nc..\n", " abc\n",
            "abc \n", SIGNS + "O\n", SIGNS + "a\n", "a\u0062\u00e4c\n", "abc\u2028", "abc\x0b", "abc\x85\n",
            "abc\ud800\n", "ABCDE\n", "a.b.c*\n", "cab\n*..\n", "a..\n.b.\n..c\n\x0c", "\ufeffabc\n",
        ]
        for text in wrong:
            self.assertIsNone(read_plainly(text), text)
            self.taken(NoText, read_picture, text)

    def test_just_within_and_beyond(self):
        for many in (75, 76, 77, 78):
            text = "ab" + "." * (many - 3) + "c\n"
            if many <= 77:
                self.assertEqual(read_picture(text), ((0, 0), (1, 0), (many - 1, 0)))
            else:
                self.taken(NoText, read_picture, text)
        for many in (39, 40, 41, 42):
            text = "c.\n" + "..\n" * (many - 2) + "ab\n"
            if many <= 41:
                self.assertEqual(read_picture(text), ((0, 0), (1, 0), (0, many - 1)))
            else:
                self.taken(NoText, read_picture, text)

    def test_of_anything(self):
        for thing in ANYTHING + [b"abc\n", ("abc\n",), ["abc\n"], list("abc\n"), {"abc\n": 1}, SOME, 10 ** 5000]:
            self.taken(NoText, read_picture, thing)

    def test_each_short_text(self):
        read = 0
        for many in range(7):
            for some in itertools.product("abc.\n", repeat=many):
                text = "".join(some)
                due = read_plainly(text)
                if due is None:
                    with self.assertRaises(NoText):
                        read_picture(text)
                else:
                    self.assertEqual(read_picture(text), due)
                    read += 1
        self.assertGreater(read, 50)

    def test_one_sign_changed(self):
        for seed in range(12):
            chance = random.Random(seed)
            text = picture(any_spots(seed))
            for _ in range(40):
                at = chance.randrange(len(text))
                sign = chance.choice(SIGNS + "..\n\n \0-O")
                ahead, rest = text[:at], text[at + 1:]
                for other in (ahead + sign + rest, ahead + rest, ahead + sign + text[at:]):
                    due = read_plainly(other)
                    if due is None:
                        self.taken(NoText, read_picture, other)
                    else:
                        self.assertEqual(read_picture(other), due)

    def test_told_alike_again(self):
        self.assertEqual(read_picture(TEXT), read_picture(TEXT))
        self.assertEqual(picture(SOME), picture(SOME))
        self.assertEqual(SOME, ((0, 0), (4, 0), (2, 2), (2, 1)))


if __name__ == "__main__":
    unittest.main()
