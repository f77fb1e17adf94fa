"""Drawings that several tests use, and slow ways to tell what the program tells."""

from itertools import permutations

NO_POINTS = []
ALONE = [[], [], []]
ONE_ROPE = [[0], [1]]
LOOP = [[0, 1]]
LOOPS_APART = [[0, 1, 2, 3]]
LOOPS_CROSSED = [[0, 2, 1, 3]]
THREE_FLAT = [[0, 2, 4], [5, 3, 1]]
THREE_TWISTED = [[0, 2, 4], [1, 3, 5]]
TWO_HANDLES = [[0, 2, 1, 3, 4, 6, 5, 7]]
PATH = [[0], [1, 2], [3]]
SEVERAL_PIECES = [[], [4], [0, 1], [], [5, 2], [3]]
TWO_CROSSED = [[0, 2, 1, 3], [], [4, 6, 5, 7]]

# All that are drawings above, with pieces, faces and handles worked out by hand.
BUILT = [
    (NO_POINTS, (0, 0, 0)),
    (ALONE, (3, 3, 0)),
    (ONE_ROPE, (1, 1, 0)),
    (LOOP, (1, 2, 0)),
    (LOOPS_APART, (1, 3, 0)),
    (LOOPS_CROSSED, (1, 1, 1)),
    (THREE_FLAT, (1, 3, 0)),
    (THREE_TWISTED, (1, 1, 1)),
    (TWO_HANDLES, (1, 1, 2)),
    (PATH, (1, 1, 0)),
    (SEVERAL_PIECES, (4, 5, 0)),
    (TWO_CROSSED, (3, 3, 2)),
]

BIG = 10 ** 20

NO_DRAWINGS = [
    [[0]],
    [[1]],
    [[1, 2]],
    [[0, 2], []],
    [[0, 0]],
    [[0], [0]],
    [[0, 1], [0, 1]],
    [[0, 1, 1]],
    [[0, -1]],
    [[-1, -2]],
    [[-2], [-1]],
    [[0, 1, -1, -2]],
    [[0, 1, 2]],
    [[0, 1], [], [2]],
    [[0, 2], [1, 4]],
    [[0, 1, 2, 4]],
    [[0], [BIG]],
    [[0], [-BIG]],
    [[BIG, BIG + 1]],
    [[0, 1], [2, 2 ** 64 + 3]],
]


def cycles(order):
    """The rounds in which order[e] comes right behind e."""
    rounds = []
    seen = set()
    for start in range(len(order)):
        if start not in seen:
            ends = [start]
            while order[ends[-1]] != start:
                ends.append(order[ends[-1]])
            seen.update(ends)
            rounds.append(ends)
    return rounds


def small_drawings():
    """All drawings of three ropes or fewer, up to the order of points, some with points alone and turned rounds."""
    for ropes in range(4):
        for number, order in enumerate(permutations(range(2 * ropes))):
            rounds = cycles(order)
            if number % 3 == 1:
                rounds = [[]] + [ends[1:] + ends[:1] for ends in reversed(rounds)] + [[]]
            yield rounds


def interlaced(ropes):
    """One point, at which each rope crosses each other one."""
    return [list(range(0, 2 * ropes, 2)) + list(range(1, 2 * ropes, 2))]


def circle(ropes):
    """A ring of points, each joined to the next one."""
    return [[2 * k, (2 * k - 1) % (2 * ropes)] for k in range(ropes)]


def from_least(ends):
    place = ends.index(min(ends))
    return ends[place:] + ends[:place]


def slow_faces(rounds):
    """Faces joined from pairs of neighbouring ends until nothing more can be joined."""
    follows = {}
    for ends in rounds:
        for end, behind in zip(ends, ends[1:] + ends[:1]):
            follows[end ^ 1] = behind
    left = dict(follows)
    found = []
    while left:
        least = min(left)
        face = [least]
        while left[face[-1]] != least:
            face.append(left.pop(face[-1]))
        left.pop(face[-1])
        found.append(face)
    return found


def slow_pieces(rounds):
    """Pieces by giving joined points the same mark until nothing changes."""
    mark = list(range(len(rounds)))
    point_of = {end: point for point, ends in enumerate(rounds) for end in ends}
    changed = True
    while changed:
        changed = False
        for end, point in point_of.items():
            if mark[point_of[end ^ 1]] > mark[point]:
                mark[point_of[end ^ 1]] = mark[point]
                changed = True
    return [[point for point, its in enumerate(mark) if its == least] for least in sorted(set(mark))]


def slow_handles(rounds):
    """Handles by the words of the document, piece by piece."""
    total = 0
    for piece in slow_pieces(rounds):
        ends = [end for point in piece for end in rounds[point]]
        own_faces = [face for face in slow_faces(rounds) if face[0] in ends] or [[]]
        doubled = 2 - len(piece) + len(ends) // 2 - len(own_faces)
        if doubled % 2 or doubled < 0:
            raise AssertionError(f"half of {doubled} handles")
        total += doubled // 2
    return total
