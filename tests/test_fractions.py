import random
import unittest
from fractions import Fraction

from restdraw.errors import DrawError, NoText
from restdraw.fractions import fraction, fraction_text, less, over, plus, read_fraction, sign, times
from tests.helper import ANYTHING

GREAT = 10 ** 59 + 7


def pair(value):
    return (value.numerator, value.denominator)


def numbers(chance):
    return chance.choice([
        chance.randrange(-12, 13), chance.randrange(-1000, 1001), chance.randrange(-10 ** 60, 10 ** 60),
        6 ** chance.randrange(70), -(2 ** chance.randrange(190)), 10 ** chance.randrange(60),
    ])


def some(chance):
    return Fraction(numbers(chance), numbers(chance) or 1)


class TestReckoning(unittest.TestCase):
    def test_lowest_terms_with_either_sign(self):
        self.assertEqual(fraction(7, 2), (7, 2))
        self.assertEqual(fraction(-7, 2), (-7, 2))
        self.assertEqual(fraction(7, -2), (-7, 2))
        self.assertEqual(fraction(-7, -2), (7, 2))
        self.assertEqual(fraction(12, 8), (3, 2))
        self.assertEqual(fraction(-12, 8), (-3, 2))
        self.assertEqual(fraction(12, -4), (-3, 1))

    def test_nought(self):
        for d in (1, -1, 5, -GREAT, GREAT):
            self.assertEqual(fraction(0, d), (0, 1))

    def test_sixty_figures(self):
        self.assertEqual(fraction(GREAT * 6, GREAT * 4), (3, 2))
        self.assertEqual(fraction(GREAT, -GREAT), (-1, 1))
        self.assertEqual(fraction(-GREAT, 10 ** 59), (-GREAT, 10 ** 59))

    def test_kinds(self):
        told = fraction(4, -6)
        self.assertIsInstance(told, tuple)
        self.assertEqual([type(one) for one in told], [int, int])

    def test_against_pythons_own(self):
        chance = random.Random(1)
        for _ in range(2000):
            n, d = numbers(chance), numbers(chance) or 1
            self.assertEqual(fraction(n, d), pair(Fraction(n, d)))
            one, other = some(chance), some(chance)
            self.assertEqual(plus(pair(one), pair(other)), pair(one + other))
            self.assertEqual(less(pair(one), pair(other)), pair(one - other))
            self.assertEqual(times(pair(one), pair(other)), pair(one * other))
            if other != 0:
                self.assertEqual(over(pair(one), pair(other)), pair(one / other))

    def test_sums_and_kin(self):
        self.assertEqual(plus((1, 2), (1, 2)), (1, 1))
        self.assertEqual(plus((-1, 2), (1, 2)), (0, 1))
        self.assertEqual(less((1, 6), (1, 2)), (-1, 3))
        self.assertEqual(times((2, 3), (-3, 2)), (-1, 1))
        self.assertEqual(over((1, 2), (-1, 4)), (-2, 1))
        self.assertEqual(over((0, 1), (-1, 4)), (0, 1))

    def test_sign(self):
        self.assertEqual([sign(one) for one in ((-7, 2), (0, 1), (1, 9), (GREAT, 1))], [-1, 0, 1, 1])
        self.assertEqual([sign(one) for one in ((-1, 1), (-1, GREAT), (1, 1), (-GREAT, 2))], [-1, -1, 1, -1])

    def test_told_again_alike(self):
        self.assertEqual(plus((1, 3), (1, 6)), plus((1, 3), (1, 6)))


class TestTexts(unittest.TestCase):
    def refused(self, thing):
        with self.assertRaises(NoText) as taken:
            read_fraction(thing)
        self.assertIsInstance(taken.exception, DrawError)

    def both_ways(self, one, text):
        self.assertEqual(fraction_text(one), text)
        self.assertEqual(read_fraction(text), one)

    def test_written_and_read(self):
        self.both_ways((0, 1), "0")
        self.both_ways((-7, 2), "-7/2")
        self.both_ways((7, 2), "7/2")
        self.both_ways((10, 1), "10")
        self.both_ways((-1, 1), "-1")
        self.both_ways((1, 100), "1/100")
        self.both_ways((GREAT, 10 ** 59), f"{GREAT}/{10 ** 59}")
        self.both_ways((-GREAT, 1), f"-{GREAT}")

    def test_noughts_within_at_each_length(self):
        for many in range(1, 250):
            self.both_ways((10 ** many, 1), "1" + "0" * many)
            self.both_ways((10 ** many - 1, 10 ** many), "9" * many + "/1" + "0" * many)

    def test_more_figures_than_python_writes_at_once(self):
        one = (3 * GREAT, 2)
        for _ in range(8):
            one = times(one, one)
        text = fraction_text(one)
        self.assertGreater(len(text), 10000)
        self.assertEqual(read_fraction(text), one)
        self.both_ways((-(10 ** 7000), 3), "-1" + "0" * 7000 + "/3")
        self.refused("0" + text)
        self.refused(text + "0/")

    def test_all_fractions_of_small_numbers(self):
        texts = {}
        for n in range(-12, 13):
            for d in range(1, 13):
                value = Fraction(n, d)
                texts[str(value)] = pair(value)
        for text, one in texts.items():
            self.both_ways(one, text)
        for n in range(-12, 13):
            for d in range(-1, 13):
                text = f"{n}/{d}"
                if text not in texts:
                    self.refused(text)

    def test_texts_that_are_none(self):
        for text in (
            "", " ", "-", "/", "-/", "--1", "00", "01", "007", "-01", "-0", "+0", "+1", " 1", "1 ", "\n1", "1\n",
            "\t1", "1\r", "1/1", "-1/1", "2/4", "0/1", "0/5", "1/0", "0/0", "1/-2", "-1/-2", "1/+2", "1/02",
            "1/ 2", "1 /2", "1/2 ", "1/2\n", "1//2", "1/2/3", "/2", "1/", "1_0", "1.0", "1e3", "0x1", "a", "1a",
            "\u0661", "\u00b2", "1/\u0662", "\uff11", "\u22121", "1\x00", "\ud800", "None", "-00", "-0/3", "- 1",
        ):
            self.refused(text)

    def test_things_that_are_no_texts(self):
        for thing in ANYTHING + [(0, 1), b"1", ["1"], ("1",), 7]:
            if thing not in ("0",):
                self.refused(thing)

    def test_signs_put_in_and_taken_out(self):
        signs = "0123456789-/ +\n"
        for text in ("0", "-7/2", "12/35", "-40"):
            for at in range(len(text) + 1):
                for mark in signs:
                    self.judge(text[:at] + mark + text[at:])
                    self.judge(text[:at] + mark + text[at + 1:])
                self.judge(text[:at] + text[at + 1:])

    def judge(self, text):
        """A text that is read is that of what is read, as Python's own fractions write it."""
        try:
            value = Fraction(text)
        except (ValueError, ZeroDivisionError):
            value = None
        if value is not None and str(value) == text:
            self.both_ways(pair(value), text)
        else:
            self.refused(text)


if __name__ == "__main__":
    unittest.main()
