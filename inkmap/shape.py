"""Pieces of a drawing, its faces and handles counted, and a rope taken out of it."""

from inkmap.errors import NoEnd
from inkmap.rounds import across, faces, refuse_no_drawing


def points_of_ends(rounds):
    point_of = {}
    for point, ends in enumerate(rounds):
        for end in ends:
            point_of[end] = point
    return point_of


def piece_from(rounds, point_of, start):
    found = {start: True}
    waiting = [start]
    while waiting:
        point = waiting.pop()
        for end in rounds[point]:
            other = point_of[across(end)]
            if other not in found:
                found[other] = True
                waiting.append(other)
    return sorted(found)


def pieces(rounds):
    refuse_no_drawing(rounds)
    point_of = points_of_ends(rounds)
    told = []
    seen = {}
    # Points are tried from the least on: so the pieces come in the order of their least points.
    for start in range(len(rounds)):
        if start not in seen:
            piece = piece_from(rounds, point_of, start)
            told.append(piece)
            for point in piece:
                seen[point] = True
    return told


def how_many_ropes(rounds):
    return sum([len(ends) for ends in rounds]) // 2


def how_many_faces(rounds):
    alone = [ends for ends in rounds if len(ends) == 0]
    return len(faces(rounds)) + len(alone)


def built(rounds):
    piece_count = len(pieces(rounds))
    face_count = how_many_faces(rounds)
    # The sum over all pieces at once: each brings a 2, and its points, ropes and faces are no other's.
    doubled = 2 * piece_count - len(rounds) + how_many_ropes(rounds) - face_count
    return (piece_count, face_count, doubled // 2)


def handles(rounds):
    return built(rounds)[2]


def is_flat(rounds):
    return handles(rounds) == 0


def round_without(ends, rope, renamed):
    return [renamed.get(end, end) for end in ends if end // 2 != rope]


def without(rounds, rope):
    refuse_no_drawing(rounds)
    last = how_many_ropes(rounds) - 1
    if rope < 0 or rope > last:
        raise NoEnd("there is no such rope")
    renamed = {2 * last: 2 * rope, 2 * last + 1: 2 * rope + 1}
    return [round_without(ends, rope, renamed) for ends in rounds]
