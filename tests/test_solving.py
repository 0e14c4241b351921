import random
import unittest
from fractions import Fraction

from restdraw.solving import solved
from tests.helper import number, pair_of, spot


def made(chance, figures):
    below = chance.randrange(1, 10 ** figures)
    return Fraction(chance.randrange(-10 ** figures, 10 ** figures), below)


def table_of(chance, many, figures):
    return [[made(chance, figures) for _ in range(many)] for _ in range(many)]


def as_rows(table):
    return tuple(tuple(pair_of(one) for one in row) for row in table)


def times_points(table, points):
    """The sides that the rows come to with these points."""
    return [tuple(sum(one * point[k] for one, point in zip(row, points)) for k in (0, 1)) for row in table]


class TestSolved(unittest.TestCase):
    def come_to(self, table, sides):
        """Solved, and looked at row by row."""
        rows = as_rows(table)
        handed = tuple((pair_of(x), pair_of(y)) for x, y in sides)
        told = solved(rows, handed)
        self.assertIsInstance(told, tuple)
        self.assertEqual(len(told), len(table))
        points = [spot(point) for point in told]
        self.assertEqual(times_points(table, points), [tuple(side) for side in sides])
        self.assertEqual(rows, as_rows(table))
        self.assertEqual(handed, tuple((pair_of(x), pair_of(y)) for x, y in sides))
        self.assertEqual(solved(rows, handed), told)
        return told

    def test_some(self):
        self.assertEqual(solved((((2, 1),),), (((1, 1), (-3, 1)),)), (((1, 2), (-3, 2)),))
        self.assertEqual(solved((((-2, 3),),), (((4, 1), (0, 1)),)), (((-6, 1), (0, 1)),))
        rows = (((1, 1), (1, 1)), ((1, 1), (-1, 1)))
        sides = (((3, 1), (0, 1)), ((1, 1), (1, 2)))
        self.assertEqual(solved(rows, sides), (((2, 1), (1, 4)), ((1, 1), (-1, 4))))

    def test_rows_that_begin_with_noughts(self):
        rows = (((0, 1), (0, 1), (2, 1)), ((0, 1), (3, 1), (1, 1)), ((5, 1), (0, 1), (0, 1)))
        sides = (((2, 1), (4, 1)), ((1, 1), (5, 1)), ((10, 1), (1, 1)))
        self.assertEqual(solved(rows, sides), (((2, 1), (1, 5)), ((0, 1), (1, 1)), ((1, 1), (2, 1))))

    def test_one_to_sixteen(self):
        for many in range(1, 17):
            for figures in (1, 2, 5):
                chance = random.Random(many * 100 + figures)
                table = table_of(chance, many, figures)
                while self.reaches(table) < many:
                    table = table_of(chance, many, figures)
                points = [(made(chance, figures), made(chance, figures)) for _ in range(many)]
                told = self.come_to(table, times_points(table, points))
                self.assertEqual([spot(point) for point in told], points)

    def test_thirty_figures(self):
        for many in (1, 2, 3, 5, 8):
            chance = random.Random(many)
            sides = [(made(chance, 30), made(chance, 30)) for _ in range(many)]
            self.come_to(table_of(chance, many, 30), sides)

    def test_sixteen_rows_of_thirty_figures(self):
        chance = random.Random(16)
        table = table_of(chance, 16, 30)
        points = [(made(chance, 30), made(chance, 30)) for _ in range(16)]
        sides = tuple((pair_of(x), pair_of(y)) for x, y in times_points(table, points))
        self.assertEqual([spot(point) for point in solved(as_rows(table), sides)], points)

    def test_sixty_figures(self):
        chance = random.Random(60)
        self.come_to(table_of(chance, 4, 60), [(made(chance, 60), made(chance, 60)) for _ in range(4)])

    def test_many_noughts(self):
        solved_ones = unsolved = 0
        for seed in range(300):
            chance = random.Random(seed)
            many = 1 + seed % 5
            table = [[Fraction(chance.choice((0, 0, 1, -1, 2)), chance.choice((1, 3))) for _ in range(many)]
                     for _ in range(many)]
            sides = [(made(chance, 1), made(chance, 1)) for _ in range(many)]
            if self.reaches(table) == many:
                self.come_to(table, sides)
                solved_ones += 1
            else:
                self.assertIsNone(solved(as_rows(table), tuple((pair_of(x), pair_of(y)) for x, y in sides)))
                unsolved += 1
        self.assertGreater(min(solved_ones, unsolved), 50)

    def reaches(self, table):
        """How many rows are not made of others, by plain sweeping."""
        rows = [list(row) for row in table]
        found = 0
        for column in range(len(rows)):
            lead = [row for row in rows[found:] if row[column] != 0]
            if not lead:
                continue
            rows[found:] = lead[:1] + [row for row in rows[found:] if row is not lead[0]]
            for k in range(found + 1, len(rows)):
                share = rows[k][column] / rows[found][column]
                rows[k] = [one - share * top for one, top in zip(rows[k], rows[found])]
            found += 1
        return found

    def test_not_just_one_answer(self):
        nought, one, two = (0, 1), (1, 1), (2, 1)
        self.assertIsNone(solved(((nought,),), ((nought, nought),)))
        self.assertIsNone(solved(((nought,),), ((one, one),)))
        # Two rows alike, with sides that go along with one another and sides that don't.
        rows = ((one, two), (two, (4, 1)))
        self.assertIsNone(solved(rows, ((one, one), (two, two))))
        self.assertIsNone(solved(rows, ((one, one), (one, one))))
        self.assertIsNone(solved(((nought, nought), (one, one)), ((nought, nought), (one, one))))
        self.assertIsNone(solved(((nought, one), (nought, two)), ((one, one), (two, two))))

    def test_a_row_made_of_others(self):
        for many in range(2, 17):
            chance = random.Random(many)
            table = table_of(chance, many, 3)
            shares = [made(chance, 2) for _ in range(many - 1)]
            at = chance.randrange(many)
            others = table[:at] + table[at + 1:]
            table[at] = [sum(share * row[k] for share, row in zip(shares, others)) for k in range(many)]
            sides = tuple((pair_of(made(chance, 3)), pair_of(made(chance, 3))) for _ in range(many))
            self.assertIsNone(solved(as_rows(table), sides))

    def test_a_row_or_a_column_of_noughts(self):
        for many in range(1, 17):
            chance = random.Random(many)
            sides = tuple((pair_of(made(chance, 3)), pair_of(made(chance, 3))) for _ in range(many))
            at = chance.randrange(many)
            table = table_of(chance, many, 3)
            table[at] = [Fraction(0)] * many
            self.assertIsNone(solved(as_rows(table), sides))
            table = [[Fraction(0) if k == at else one for k, one in enumerate(row)]
                     for row in table_of(chance, many, 3)]
            self.assertIsNone(solved(as_rows(table), sides))

    def test_what_was_told_is_handed_in_again(self):
        chance = random.Random(7)
        table = table_of(chance, 6, 20)
        told = solved(as_rows(table), tuple((pair_of(made(chance, 20)), pair_of(made(chance, 20))) for _ in range(6)))
        again = self.come_to(table, [spot(point) for point in told])
        self.assertGreater(number(again[0][0]).denominator, 10 ** 1000)


if __name__ == "__main__":
    unittest.main()
