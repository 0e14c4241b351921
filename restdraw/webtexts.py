"""Webs written as texts, and read back."""

from restdraw.errors import NoText
from restdraw.webs import is_web


def row_text(place, row):
    """The line of one place, without its line feed."""
    return f"{place}:" + "".join([f" {q}" for q in row])


def web_text(web):
    """The text of a web, a line for each place."""
    return "".join([row_text(p, row) + "\n" for p, row in enumerate(web)])


def loosely_read(text):
    """The rows that the lines tell behind their first blanks, or None where a word is no place's number."""
    lines = text.split("\n")[:-1]
    # Looked up, not reckoned: so only a number written just as the program writes it is one.
    places = {str(p): p for p in range(len(lines))}
    rows = []
    for line in lines:
        words = line.split(" ")[1:]
        if not all([word in places for word in words]):
            return None
        rows.append(tuple([places[word] for word in words]))
    return tuple(rows)


def read_web(text):
    """The web that has this text; refused with NoText, of anything."""
    if not isinstance(text, str):
        raise NoText("only a text can be read")
    rows = loosely_read(text)
    # Whatever the loose reading passed over shows when the text is written anew.
    if not is_web(rows) or web_text(rows) != text:
        raise NoText("this is no web's text")
    return rows
