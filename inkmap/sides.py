"""The two sides of a ring of ropes, or the one where it has no other."""

from inkmap.errors import NoEnd, NoRing
from inkmap.rounds import across, faces, refuse_no_drawing
from inkmap.shape import piece_from, points_of_ends


def refuse_no_ends(point_of, ring):
    for end in ring:
        if end not in point_of:
            raise NoEnd("a number of the ring is no end")


def leads_round(point_of, ring):
    starts = [point_of[end] for end in ring]
    goals = [point_of[across(end)] for end in ring]
    return goals == starts[1:] + starts[:1]


def nothing_twice(numbers):
    return len(set(numbers)) == len(numbers)


def refuse_no_ring(point_of, ring):
    if len(ring) == 0:
        raise NoRing("a ring has at least one end")
    if not leads_round(point_of, ring):
        raise NoRing("each rope of a ring must lead to where the next one begins")
    if not nothing_twice([point_of[end] for end in ring]):
        raise NoRing("a point comes twice")
    # Two ropes at two points have all points once, and yet may be one rope gone forth and back.
    if not nothing_twice([end // 2 for end in ring]):
        raise NoRing("a rope comes twice")


def ends_off_ropes(ends, ropes):
    return [end for end in ends if end // 2 not in ropes]


def sides(rounds, ring):
    refuse_no_drawing(rounds)
    point_of = points_of_ends(rounds)
    refuse_no_ends(point_of, ring)
    refuse_no_ring(point_of, ring)
    # Faces hang together by ropes just as points do in the drawing turned inside out.
    told = faces(rounds)
    face_of = points_of_ends(told)
    ropes = [end // 2 for end in ring]
    ways = [ends_off_ropes(face, ropes) for face in told]
    one = piece_from(ways, face_of, face_of[ring[0]])
    other = piece_from(ways, face_of, face_of[across(ring[0])])
    if one == other:
        return ("one", one)
    return ("two", one, other)
