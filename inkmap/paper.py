"""A day on which points are put on paper and ropes tied, deed by deed."""

from inkmap.errors import NoEnd
from inkmap.shape import built, how_many_ropes


def is_spot(rounds, spot):
    number = spot[1]
    if spot[0] == "end":
        return number >= 0 and number < 2 * how_many_ropes(rounds)
    return number >= 0 and number < len(rounds) and len(rounds[number]) == 0


def put_behind(ends, before, end):
    if before not in ends:
        return ends
    place = ends.index(before) + 1
    return ends[:place] + [end] + ends[place:]


def put_at(rounds, spot, end):
    if spot[0] == "end":
        return [put_behind(ends, spot[1], end) for ends in rounds]
    # The point was alone ahead of the tie: at most the even end of the same rope stands there by now.
    return [ends + [end] if point == spot[1] else ends for point, ends in enumerate(rounds)]


class Paper:
    def __init__(self):
        self.rounds = []

    def put_point(self):
        self.rounds = self.rounds + [[]]
        return len(self.rounds) - 1

    def tie(self, one, other):
        # Both are looked at ahead of the deed: the rope's own even end is no spot for its odd one.
        if not is_spot(self.rounds, one) or not is_spot(self.rounds, other):
            raise NoEnd("there is no such spot")
        even = 2 * how_many_ropes(self.rounds)
        self.rounds = put_at(put_at(self.rounds, one, even), other, even + 1)
        return built(self.rounds)

    def look(self):
        return [list(ends) for ends in self.rounds]


def answer_to(paper, deed):
    if deed[0] == "point":
        return paper.put_point()
    if deed[0] == "look":
        return paper.look()
    try:
        return paper.tie(deed[1], deed[2])
    except NoEnd:
        return "no end"


def answers(deeds):
    paper = Paper()
    told = []
    for deed in deeds:
        told.append(answer_to(paper, deed))
    return told
