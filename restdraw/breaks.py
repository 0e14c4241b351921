"""Breaks: one place or two without which a web hangs together no more."""

from restdraw.webs import hang_together


def breaks(web):
    """The breaks, sorted."""
    places = list(range(len(web)))
    ones = [(p,) for p in places]
    twos = [(p, q) for p in places for q in places if p < q]
    return sorted([some for some in ones + twos if not hang_together(web, some)])


def is_three_tied(web):
    """Whether the web has four places at least and no break."""
    return len(web) >= 4 and breaks(web) == []
