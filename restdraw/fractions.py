"""Fractions: tuples (n, d) in lowest terms, d from 1 on, and their texts."""

from restdraw.errors import NoText

FIGURES = "0123456789"

# Python writes and reads only some thousands of figures at once; fractions that were told may have more.
PIECE = 60


def greatest_divisor(one, other):
    """The greatest whole number that divides both, which are not both 0."""
    one = abs(one)
    other = abs(other)
    while other != 0:
        one, other = other, one % other
    return one


def fraction(n, d):
    """The fraction n by d, of two whole numbers, the second not 0."""
    divisor = greatest_divisor(n, d)
    if d < 0:
        divisor = -divisor
    return (n // divisor, d // divisor)


def whole_point(pair):
    """The point (x, y) of two whole numbers."""
    x, y = pair
    return ((x, 1), (y, 1))


def plus(one, other):
    """The sum of two fractions."""
    return fraction(one[0] * other[1] + other[0] * one[1], one[1] * other[1])


def less(one, other):
    """The first fraction less the second."""
    return fraction(one[0] * other[1] - other[0] * one[1], one[1] * other[1])


def times(one, other):
    """The product of two fractions."""
    return fraction(one[0] * other[0], one[1] * other[1])


def over(one, other):
    """The first fraction by the second, which is not 0."""
    return fraction(one[0] * other[1], one[1] * other[0])


def sign(one):
    """-1, 0 or 1, as the fraction is below, at or above 0."""
    if one[0] < 0:
        return -1
    return 1 if one[0] > 0 else 0


def figures_of(number):
    """The figures of a whole number from 0 on, however great."""
    pieces = []
    while number >= 10 ** 60:
        number, low = divmod(number, 10 ** 60)
        pieces.append(str(low).zfill(PIECE))
    pieces.append(str(number))
    return "".join(pieces[::-1])


def number_of(figures):
    """The whole number that these figures tell, however many."""
    first = len(figures) % PIECE
    number = int("0" + figures[:first])
    for start in range(first, len(figures), PIECE):
        number = number * 10 ** 60 + int(figures[start:start + PIECE])
    return number


def are_figures(text):
    """Whether the text is of one figure at least and of nothing else."""
    return text != "" and all([mark in FIGURES for mark in text])


def fraction_text(one):
    """The text of a fraction."""
    n, d = one
    text = figures_of(abs(n))
    if n < 0:
        text = "-" + text
    return text if d == 1 else text + "/" + figures_of(d)


def loosely_read(text):
    """The fraction of a text that may have needless figures, or None."""
    below_nought = text.startswith("-")
    above, slash, below = (text[1:] if below_nought else text).partition("/")
    if slash == "":
        below = "1"
    if not are_figures(above) or not are_figures(below):
        return None
    n = number_of(above)
    d = number_of(below)
    return None if d == 0 else fraction(-n if below_nought else n, d)


def read_fraction(text):
    """The fraction that has this text; refused with NoText, of anything."""
    if not isinstance(text, str):
        raise NoText("only a text can be read")
    one = loosely_read(text)
    # Needless noughts, a sign at 0, terms not the lowest: all show when the text is written anew.
    if one is None or fraction_text(one) != text:
        raise NoText("this is no fraction's text")
    return one
