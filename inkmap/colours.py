"""Colours for the points of a drawing, and the dense part that says how many will do."""

from inkmap.errors import NoColours
from inkmap.rounds import across, refuse_no_drawing
from inkmap.shape import points_of_ends


def points_across(point_of, ends):
    return sorted(set([point_of[across(end)] for end in ends]))


def all_neighbours(rounds):
    refuse_no_drawing(rounds)
    point_of = points_of_ends(rounds)
    near = [points_across(point_of, ends) for ends in rounds]
    for point, others in enumerate(near):
        if point in others:
            raise NoColours("a rope leads from a point to itself")
    return near


def how_many_among(others, left):
    return len([other for other in others if other in left])


def peeled(near):
    left = list(range(len(near)))
    order = []
    counts = []
    # A point of the fewest neighbours is taken away each time, so all that are left then have as many or more.
    while len(left) > 0:
        among = [how_many_among(near[point], left) for point in left]
        fewest = min(among)
        point = left.pop(among.index(fewest))
        order.append(point)
        counts.append(fewest)
    return (order, counts)


def dense_part(rounds):
    taken = peeled(all_neighbours(rounds))
    order = taken[0]
    counts = taken[1]
    if len(order) == 0:
        return (0, [])
    greatest = max(counts)
    # No denser part can be: the first of its points to be taken away would have had more neighbours left.
    return (greatest, sorted(order[counts.index(greatest):]))


def least_free(used):
    colour = 0
    while colour in used:
        colour = colour + 1
    return colour


def coloured(rounds):
    near = all_neighbours(rounds)
    order = peeled(near)[0]
    colour_of = {}
    # The other way round each point meets only those neighbours that were left with it: d of them at the most.
    for point in reversed(order):
        used = [colour_of[other] for other in near[point] if other in colour_of]
        colour_of[point] = least_free(used)
    return [colour_of[point] for point in range(len(near))]
