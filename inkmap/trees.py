"""Ropes that join all points, others that join all faces, and those that are left."""

from inkmap.rounds import faces, refuse_no_drawing
from inkmap.shape import how_many_ropes, points_of_ends


def tree_of(places, ropes):
    place_of = points_of_ends(places)
    # Places that hang together by the ropes chosen so far bear the same mark.
    marks = list(range(len(places)))
    chosen = []
    for rope in ropes:
        one = marks[place_of[2 * rope]]
        other = marks[place_of[2 * rope + 1]]
        if one != other:
            chosen.append(rope)
            marks = [one if mark == other else mark for mark in marks]
    return chosen


def all_but(ropes, chosen):
    return [rope for rope in ropes if rope not in chosen]


def two_trees(rounds):
    refuse_no_drawing(rounds)
    ropes = list(range(how_many_ropes(rounds)))
    of_points = tree_of(rounds, ropes)
    rest = all_but(ropes, of_points)
    # Ropes without a ring don't part the faces from one another: so the rest is enough to join them all.
    of_faces = tree_of(faces(rounds), rest)
    return (of_points, of_faces, all_but(rest, of_faces))
