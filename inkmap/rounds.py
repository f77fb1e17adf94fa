"""Drawings told by their rounds, their faces, and the drawings turned inside out and mirrored."""

from inkmap.errors import NoDrawing


def is_drawing(rounds):
    ends = all_ends(rounds)
    return len(ends) % 2 == 0 and sorted(ends) == list(range(len(ends)))


def refuse_no_drawing(rounds):
    if not is_drawing(rounds):
        raise NoDrawing("with m ropes each number from 0 to 2 m - 1 must stand once in the rounds")


def all_ends(rounds):
    ends = []
    for standing in rounds:
        ends.extend(standing)
    return ends


def across(end):
    return end + 1 if end % 2 == 0 else end - 1


def next_ends(rounds):
    behind = {}
    for ends in rounds:
        for place, end in enumerate(ends):
            behind[end] = ends[(place + 1) % len(ends)]
    return behind


def face_from(behind, start):
    face = [start]
    end = behind[across(start)]
    while end != start:
        face.append(end)
        end = behind[across(end)]
    return face


def faces(rounds):
    refuse_no_drawing(rounds)
    behind = next_ends(rounds)
    found = []
    seen = {}
    # Ends are tried from the least on: so each face begins with its least end, and the faces come in order.
    for start in range(len(behind)):
        if start not in seen:
            face = face_from(behind, start)
            found.append(face)
            for end in face:
                seen[end] = True
    return found


def inside_out(rounds):
    return faces(rounds)


def mirrored(rounds):
    refuse_no_drawing(rounds)
    return [list(reversed(ends)) for ends in rounds]
