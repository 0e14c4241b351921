"""The three lands in which the ways of an inner place part the faces."""

from restdraw.webs import from_least, steps_round
from restdraw.woods import must_have_woods, way_out


def borders(base, woods, place):
    """A dict from the steps, both ways, of the three ways of an inner place and between the corners."""
    a, b, c = base
    paths = [way_out(base, woods, place, k) for k in range(3)] + [[a, b, c, a]]
    steps = [step for path in paths for step in zip(path, path[1:])]
    return {pair: True for p, q in steps for pair in ((p, q), (q, p))}


def land(web, shut, step):
    """The faces, sorted, to which one comes from that of the step over none of these borders."""
    told = []
    seen = {}
    waiting = [step]
    while waiting:
        entered = waiting.pop()
        if entered not in seen:
            steps = steps_round(web, entered)
            seen.update({one: True for one in steps})
            told.append(from_least([p for p, q in steps]))
            waiting.extend([(q, p) for p, q in steps if (p, q) not in shut])
    return sorted(told)


def lands_of(web, base, woods, place):
    """The three lands of an inner place, where the woods are some."""
    a, b, c = base
    shut = borders(base, woods, place)
    return (land(web, shut, (b, c)), land(web, shut, (c, a)), land(web, shut, (a, b)))


def lands(web, base, woods, place):
    """The three lands of an inner place: a tuple of three sorted lists of faces."""
    must_have_woods(web, base, woods)
    return lands_of(web, base, woods, place)
