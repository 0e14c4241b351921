"""Webs: about each place its neighbours in turn; their ties, steps and faces."""

from restdraw.errors import NotFlat


def is_whole(thing):
    """Whether it is a whole number; True and False are none."""
    return isinstance(thing, int) and not isinstance(thing, bool)


def are_whole(thing, many):
    """Whether it is a tuple of just so many whole numbers."""
    return isinstance(thing, tuple) and len(thing) == many and all([is_whole(one) for one in thing])


def from_on(row, first):
    """The tuple of these unlike places, as they come round, from this one on."""
    start = row.index(first)
    return tuple(row[start:] + row[:start])


def from_least(row):
    """The tuple of these unlike places, as they come round, from the least one on."""
    return from_on(row, min(row))


def steps_of(web):
    """All steps, sorted; also of rows that don't tell each other back."""
    return sorted([(p, q) for p, row in enumerate(web) for q in row])


def hang_together(rows, without):
    """Whether from one place one comes to each other one, those without left out."""
    left = [p for p in range(len(rows)) if p not in without]
    seen = {p: True for p in without}
    seen[left[0]] = True
    waiting = [left[0]]
    while waiting:
        p = waiting.pop()
        for q in rows[p]:
            if q not in seen:
                seen[q] = True
                waiting.append(q)
    return all([p in seen for p in left])


def is_row(thing, place, many):
    """Whether it is a row for this place, where there are so many places."""
    if not isinstance(thing, tuple) or len(thing) == 0:
        return False
    if not all([is_whole(q) and 0 <= q < many and q != place for q in thing]):
        return False
    return thing[0] == min(thing) and len(set(thing)) == len(thing)


def tell_back(rows):
    """Whether each place stands in the rows of those that stand in its own."""
    steps = steps_of(rows)
    return steps == sorted([(q, p) for p, q in steps])


def is_web(thing):
    """Whether it is a web, of anything."""
    if not isinstance(thing, tuple) or len(thing) < 3:
        return False
    if not all([is_row(row, p, len(thing)) for p, row in enumerate(thing)]):
        return False
    return tell_back(thing) and hang_together(thing, ())


def ties(web):
    """The ties, sorted."""
    return [(p, q) for p, q in steps_of(web) if p < q]


def behind(web, step):
    """The step that comes behind this one."""
    p, q = step
    row = web[q]
    return (q, row[row.index(p) - 1])


def steps_round(web, step):
    """The steps round the face of this one, itself first."""
    steps = [step]
    further = behind(web, step)
    while further != step:
        steps.append(further)
        further = behind(web, further)
    return steps


def faces(web):
    """The faces, sorted, each from its least step on."""
    told = []
    seen = {}
    for step in steps_of(web):
        if step not in seen:
            steps = steps_round(web, step)
            seen.update({one: True for one in steps})
            told.append(tuple([p for p, q in steps]))
    return sorted(told)


def is_flat(web):
    """Whether places and faces together are two more than ties."""
    return len(web) + len(faces(web)) == len(ties(web)) + 2


def must_be_flat(web):
    """Refuses a web that is not flat."""
    if not is_flat(web):
        raise NotFlat(len(faces(web)))


def mirrored(web):
    """The web with each row turned about."""
    return tuple([from_least(row[::-1]) for row in web])


def renamed(web, names):
    """The web in which what was p is names[p]."""
    rows = {names[p]: from_least([names[q] for q in row]) for p, row in enumerate(web)}
    return tuple([rows[p] for p in range(len(web))])
