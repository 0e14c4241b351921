"""The refusals, in the order in which they are met where several are due.

Their words never tell the values: a value may be a number of more figures than Python writes at once.
"""


class DrawError(ValueError):
    """What all refusals stand under."""

    def __init__(self, words):
        ValueError.__init__(self, words)


class NoText(DrawError):
    """What should be read is no such text."""


class NotFlat(DrawError):
    """The web is not flat; faces is how many it has."""

    def __init__(self, faces):
        DrawError.__init__(self, "the web is not flat")
        self.faces = faces


class NotTied(DrawError):
    """The web is not three tied; breaks is the list of its breaks."""

    def __init__(self, breaks):
        DrawError.__init__(self, "the web is not three tied")
        # A list of its own, so that a later change of the one handed in has no bearing.
        self.breaks = breaks[:]


class NotCornered(DrawError):
    """The web is not three-cornered; face is the first one that has not three places."""

    def __init__(self, face):
        DrawError.__init__(self, "the web has a face that has not three places")
        self.face = face


class NoRim(DrawError):
    """What was handed in is no rim."""


class NoCorners(DrawError):
    """What was handed in is no corners of the rim."""


class NoBase(DrawError):
    """What was handed in is no base."""


class NoOrder(DrawError):
    """What was handed in is no order."""


class NoWoods(DrawError):
    """What was handed in is no woods."""


class NoWeights(DrawError):
    """What was handed in is no weights."""


class NoFace(DrawError):
    """The two steps don't go round one face."""


class Doubled(DrawError):
    """A tie that can't be put in, between places that are one or neighbours."""

    def __init__(self, tie):
        DrawError.__init__(self, "the two places are one, or neighbours")
        self.tie = tie


class NoTie(DrawError):
    """There is no such tie."""

    def __init__(self, tie):
        DrawError.__init__(self, "the web has no such tie")
        self.tie = tie


class Parted(DrawError):
    """Without the tie the web hangs together no more."""

    def __init__(self, tie):
        DrawError.__init__(self, "without the tie the web hangs together no more")
        self.tie = tie


class Alike(DrawError):
    """Two places have one point; places is the least pair of such."""

    def __init__(self, places):
        DrawError.__init__(self, "two places have one point")
        self.places = places


class Folded(DrawError):
    """Two neighbours of the place stand in one direction."""

    def __init__(self, place):
        DrawError.__init__(self, "two neighbours of a place stand in one direction")
        self.place = place
