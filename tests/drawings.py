"""Drawings that several tests use, and slow ways to tell what the program tells."""

from itertools import permutations

NO_POINTS = []
ALONE = [[], [], []]
ONE_ROPE = [[0], [1]]
LOOP = [[0, 1]]
LOOPS_APART = [[0, 1, 2, 3]]
LOOPS_CROSSED = [[0, 2, 1, 3]]
THREE_FLAT = [[0, 2, 4], [5, 3, 1]]
THREE_TWISTED = [[0, 2, 4], [1, 3, 5]]
TWO_HANDLES = [[0, 2, 1, 3, 4, 6, 5, 7]]
PATH = [[0], [1, 2], [3]]
SEVERAL_PIECES = [[], [4], [0, 1], [], [5, 2], [3]]
TWO_CROSSED = [[0, 2, 1, 3], [], [4, 6, 5, 7]]

# All that are drawings above, with pieces, faces and handles worked out by hand.
BUILT = [
    (NO_POINTS, (0, 0, 0)),
    (ALONE, (3, 3, 0)),
    (ONE_ROPE, (1, 1, 0)),
    (LOOP, (1, 2, 0)),
    (LOOPS_APART, (1, 3, 0)),
    (LOOPS_CROSSED, (1, 1, 1)),
    (THREE_FLAT, (1, 3, 0)),
    (THREE_TWISTED, (1, 1, 1)),
    (TWO_HANDLES, (1, 1, 2)),
    (PATH, (1, 1, 0)),
    (SEVERAL_PIECES, (4, 5, 0)),
    (TWO_CROSSED, (3, 3, 2)),
]

BIG = 10 ** 20

NO_DRAWINGS = [
    [[0]],
    [[1]],
    [[1, 2]],
    [[0, 2], []],
    [[0, 0]],
    [[0], [0]],
    [[0, 1], [0, 1]],
    [[0, 1, 1]],
    [[0, -1]],
    [[-1, -2]],
    [[-2], [-1]],
    [[0, 1, -1, -2]],
    [[0, 1, 2]],
    [[0, 1], [], [2]],
    [[0, 2], [1, 4]],
    [[0, 1, 2, 4]],
    [[0], [BIG]],
    [[0], [-BIG]],
    [[BIG, BIG + 1]],
    [[0, 1], [2, 2 ** 64 + 3]],
]


def cycles(order):
    """The rounds in which order[e] comes right behind e."""
    rounds = []
    seen = set()
    for start in range(len(order)):
        if start not in seen:
            ends = [start]
            while order[ends[-1]] != start:
                ends.append(order[ends[-1]])
            seen.update(ends)
            rounds.append(ends)
    return rounds


def small_drawings():
    """All drawings of three ropes or fewer, up to the order of points, some with points alone and turned rounds."""
    for ropes in range(4):
        for number, order in enumerate(permutations(range(2 * ropes))):
            rounds = cycles(order)
            if number % 3 == 1:
                rounds = [[]] + [ends[1:] + ends[:1] for ends in reversed(rounds)] + [[]]
            yield rounds


def interlaced(ropes):
    """One point, at which each rope crosses each other one."""
    return [list(range(0, 2 * ropes, 2)) + list(range(1, 2 * ropes, 2))]


def circle(ropes):
    """A ring of points, each joined to the next one."""
    return [[2 * k, (2 * k - 1) % (2 * ropes)] for k in range(ropes)]


def by_neighbours(near):
    """The drawing without ropes twice in which near[p] are the neighbours of p in their order round it."""
    rope_of = {}
    for point, others in enumerate(near):
        for other in others:
            if point < other:
                rope_of[point, other] = len(rope_of)
    return [[2 * rope_of[min(p, q), max(p, q)] + (p > q) for q in others] for p, others in enumerate(near)]


def all_joined(points):
    """Each point joined to each other one."""
    return by_neighbours([[other for other in range(points) if other != point] for point in range(points)])


def grid(wide, high):
    """Points in rows, each joined to those beside, above and below it."""
    near = []
    for row in range(high):
        for column in range(wide):
            steps = [(row, column + 1), (row + 1, column), (row, column - 1), (row - 1, column)]
            near.append([wide * r + c for r, c in steps if 0 <= r < high and 0 <= c < wide])
    return by_neighbours(near)


def twelve():
    """Twelve points on a ball, each with five neighbours: flat."""
    near = [[1, 2, 3, 4, 5]]
    for k in range(5):
        near.append([0, 1 + (k - 1) % 5, 6 + (k - 1) % 5, 6 + k, 1 + (k + 1) % 5])
    for k in range(5):
        near.append([11, 6 + (k + 1) % 5, 1 + (k + 1) % 5, 1 + k, 6 + (k - 1) % 5])
    return by_neighbours(near + [[10, 9, 8, 7, 6]])


def beside(one, other):
    """Both drawings on one paper, the second one's points and ropes numbered behind the first one's."""
    count = len(sum(one, []))
    return one + [[end + count for end in ends] for ends in other]


def stirred(points, ropes, seed):
    """A drawing that looks like chance and is the same each time."""
    rounds = [[] for point in range(points)]
    for end in range(2 * ropes):
        seed = (seed * 1103515245 + 12345) % 2 ** 31
        ends = rounds[(seed >> 8) % points]
        seed = (seed * 1103515245 + 12345) % 2 ** 31
        ends.insert((seed >> 8) % (len(ends) + 1), end)
    return rounds


def points_of(rounds):
    return {end: point for point, ends in enumerate(rounds) for end in ends}


def is_loop_free(rounds):
    point_of = points_of(rounds)
    return all(point_of[end] != point_of[end ^ 1] for end in point_of)


def stirred_drawings():
    """Drawings of up to eight points and twelve ropes."""
    return [stirred(points, ropes, 100 * points + ropes) for points in range(1, 9) for ropes in range(13)]


def hanging(count, pairs):
    """Which of the numbers below count hang together by pairs: for each one the least that it hangs together with."""
    mark = list(range(count))
    changed = True
    while changed:
        changed = False
        for one, other in pairs:
            least = min(mark[one], mark[other])
            if (mark[one], mark[other]) != (least, least):
                mark[one] = mark[other] = least
                changed = True
    return mark


def from_least(ends):
    place = ends.index(min(ends))
    return ends[place:] + ends[:place]


def slow_faces(rounds):
    """Faces joined from pairs of neighbouring ends until nothing more can be joined."""
    follows = {}
    for ends in rounds:
        for end, behind in zip(ends, ends[1:] + ends[:1]):
            follows[end ^ 1] = behind
    left = dict(follows)
    found = []
    while left:
        least = min(left)
        face = [least]
        while left[face[-1]] != least:
            face.append(left.pop(face[-1]))
        left.pop(face[-1])
        found.append(face)
    return found


def slow_pieces(rounds):
    """Pieces by giving joined points the same mark until nothing changes."""
    point_of = points_of(rounds)
    mark = hanging(len(rounds), [(point_of[end], point_of[end ^ 1]) for end in point_of])
    return [[point for point, its in enumerate(mark) if its == least] for least in sorted(set(mark))]


def slow_handles(rounds):
    """Handles by the words of the document, piece by piece."""
    total = 0
    for piece in slow_pieces(rounds):
        ends = [end for point in piece for end in rounds[point]]
        own_faces = [face for face in slow_faces(rounds) if face[0] in ends] or [[]]
        doubled = 2 - len(piece) + len(ends) // 2 - len(own_faces)
        if doubled % 2 or doubled < 0:
            raise AssertionError(f"half of {doubled} handles")
        total += doubled // 2
    return total
