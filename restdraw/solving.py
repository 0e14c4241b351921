"""Rows of fractions and their sides solved, cleared in whole numbers."""

from restdraw.fractions import fraction, greatest_divisor, times


def common_multiple(some):
    """The least whole number by which all these fractions become whole."""
    multiple = 1
    for n, d in some:
        multiple = multiple // greatest_divisor(multiple, d) * d
    return multiple


def whole_times(some, by):
    """The list of these fractions times a number by which they become whole."""
    return [n * (by // d) for n, d in some]


def cleared(rows, sides):
    """The table of whole numbers, each row with its side's x and y behind, and by how much x and y are too great.

    The sides are cleared by themselves, as one long number below a side would make all numbers of its row long.
    """
    factors = [common_multiple(row) for row in rows]
    xs = [times(x, (by, 1)) for by, (x, y) in zip(factors, sides)]
    ys = [times(y, (by, 1)) for by, (x, y) in zip(factors, sides)]
    wide = common_multiple(xs)
    high = common_multiple(ys)
    table = [
        whole_times(row, by) + whole_times((x,), wide) + whole_times((y,), high)
        for row, by, x, y in zip(rows, factors, xs, ys)
    ]
    return (table, wide, high)


def swept(table, at, divisor):
    """The table where each row but this one has 0 in this column.

    The divisor is the number that led the sweep before. Each number is then made of the first ones' determinants, so
    the division by it leaves nothing over, and the numbers stay short.
    """
    top = table[at]
    lead = top[at]
    return [
        row if k == at else [(lead * n - row[at] * m) // divisor for n, m in zip(row, top)]
        for k, row in enumerate(table)
    ]


def solved(rows, sides):
    """The points that the rows come to the sides with, or None where there are not just these."""
    many = len(rows)
    table, wide, high = cleared(rows, sides)
    divisor = 1
    for at in range(many):
        leading = [k for k in range(at, many) if table[k][at] != 0]
        if not leading:
            return None
        first = leading[0]
        table = table[:at] + [table[first]] + table[at:first] + table[first + 1:]
        table = swept(table, at, divisor)
        divisor = table[at][at]
    return tuple([(fraction(row[-2], divisor * wide), fraction(row[-1], divisor * high)) for row in table])
