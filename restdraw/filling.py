"""Flat webs filled: ties put in till each face has three places."""

from restdraw.bases import uncornered_face
from restdraw.puttingin import put_in
from restdraw.webs import must_be_flat, ties


def cut(web, face):
    """Two steps round a wide face between which a tie cuts a corner off.

    There always are such. A place that stands in the face twice parts the web, and at one of its corners the places
    beside it lie in unlike parts. Where none stands twice, of four side by side the first and third, or the second
    and fourth, are no neighbours: outside of the face the two ties would cross.
    """
    around = face + face[:3]
    corners = [around[at:at + 4] for at in range(len(face))]
    free = [(p, v, q, w) for p, v, q, w in corners if p != q and q not in web[p]]
    p, v, q, w = free[0]
    return ((p, v), (q, w))


def filled(web):
    """The web with ties put in till each face has three places, and the sorted list of these ties."""
    must_be_flat(web)
    full = web
    face = uncornered_face(full)
    while face is not None:
        step, other = cut(full, face)
        full = put_in(full, step, other)
        face = uncornered_face(full)
    before = {tie: True for tie in ties(web)}
    return (full, [tie for tie in ties(full) if tie not in before])
