"""Pictures: places as signs in lines, and read back."""

from restdraw.errors import NoText

SIGNS = "abcdefghijklmnopqrstuvwxyzABCDEFGHIJKLMN"
FEWEST = 3
WIDEST = 76
HIGHEST = 40


def picture(some):
    """The text with the sign of each place at its (x, y)."""
    signs = {pair: SIGNS[p] for p, pair in enumerate(some)}
    wide = max([x for x, y in some])
    high = max([y for x, y in some])
    lines = ["".join([signs.get((x, y), ".") for x in range(wide + 1)]) for y in range(high, -1, -1)]
    return "".join([line + "\n" for line in lines])


def signs_read(text):
    """A dict from signs of places to where they stand, lines being told from the last one up."""
    lines = text.split("\n")[:-1]
    return {sign: (x, y) for y, line in enumerate(lines[::-1]) for x, sign in enumerate(line) if sign in SIGNS}


def fits(found):
    """Whether these signs are those of three places at least, from the first one on, within the bounds of pictures."""
    if len(found) < FEWEST or not all([sign in found for sign in SIGNS[:len(found)]]):
        return False
    return all([x <= WIDEST and y <= HIGHEST for x, y in found.values()])


def read_picture(text):
    """The tuple of (x, y) that has this picture; refused with NoText, of anything."""
    if not isinstance(text, str):
        raise NoText("only a text can be read")
    found = signs_read(text)
    if not fits(found):
        raise NoText("these are no places of a picture")
    some = tuple([found[sign] for sign in SIGNS[:len(found)]])
    # Whatever the loose reading passed over shows when the picture is made anew.
    if picture(some) != text:
        raise NoText("this is no picture")
    return some
