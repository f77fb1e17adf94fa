import unittest
from itertools import product

from inkmap.errors import NoEnd
from inkmap.paper import Paper, answers
from inkmap.rounds import is_drawing
from inkmap.shape import built
from tests.drawings import BIG, points_of, slow_faces, slow_handles, slow_pieces


def end(number):
    return ("end", number)


def point(number):
    return ("point", number)


def tie(one, other):
    return ("tie", one, other)


POINT = ("point",)
LOOK = ("look",)

# Two points joined by three ropes that need a handle, a rope from a point to itself, a point alone, a ring of two.
DAY = [
    POINT, POINT, tie(point(0), point(1)), tie(end(0), end(1)), tie(end(2), end(3)), POINT, tie(point(2), point(2)),
    POINT, POINT, POINT, tie(point(4), point(5)), tie(end(8), end(9)),
]


def do(paper, deed):
    return paper.put_point() if deed == POINT else paper.tie(deed[1], deed[2])


def done(deeds):
    """A Paper on which the deeds are done by hand."""
    paper = Paper()
    for deed in deeds:
        do(paper, deed)
    return paper


def spots_of(rounds):
    found = [end(number) for number in range(len(sum(rounds, [])))]
    return found + [point(number) for number, ends in enumerate(rounds) if not ends]


def slow_tied(rounds, one, other):
    """The rounds behind a tie, by turning each round so that the end to stand behind comes last."""
    count = len(sum(rounds, []))
    told = [list(ends) for ends in rounds]
    for (kind, number), new in ((one, count), (other, count + 1)):
        if kind == "point":
            told[number].append(new)
        else:
            its = [ends for ends in told if number in ends][0]
            behind = its[its.index(number) + 1:]
            while its[-1] != number:
                its.pop()
            its.extend([new] + behind)
    return told


def face_of_spot(rounds, spot):
    if spot[0] == "point":
        return spot
    ends = rounds[points_of(rounds)[spot[1]]]
    behind = ends[(ends.index(spot[1]) + 1) % len(ends)]
    return points_of(slow_faces(rounds))[behind]


def piece_of_spot(rounds, spot):
    its = spot[1] if spot[0] == "point" else points_of(rounds)[spot[1]]
    return [piece for piece in slow_pieces(rounds) if its in piece][0]


def slow_built(rounds):
    return (len(slow_pieces(rounds)), len(slow_faces(rounds)) + rounds.count([]), slow_handles(rounds))


def days():
    """Deeds that make many different papers: all ways to tie twice, some to tie a third time."""
    for points in range(1, 5):
        waiting = [[POINT] * points]
        for step in (1, 1, 5):
            longer = []
            for deeds in waiting:
                rounds = done(deeds).look()
                for one, other in product(spots_of(rounds), repeat=2):
                    longer.append(deeds + [tie(one, other)])
            waiting = longer[::step]
            yield from waiting


class Deeds(unittest.TestCase):
    """[17]"""

    def test_a_day_begins_with_no_points(self):
        self.assertEqual(answers([]), [])
        self.assertEqual(answers([LOOK]), [[]])
        self.assertEqual(Paper().look(), [])

    def test_points_are_numbered_from_nought(self):
        self.assertEqual(answers([POINT, LOOK, POINT, POINT, LOOK]), [0, [[]], 1, 2, [[], [], []]])
        paper = Paper()
        self.assertEqual([paper.put_point() for number in range(120)], list(range(120)))
        self.assertEqual(paper.look(), [[] for number in range(120)])

    def test_a_point_comes_behind_all_others_also_behind_ties(self):
        told = answers([POINT, tie(point(0), point(0)), POINT, tie(end(1), point(1)), POINT, LOOK])
        self.assertEqual(told, [0, (1, 2, 0), 1, (1, 2, 0), 2, [[0, 1, 2], [3], []]])

    def test_the_even_end_at_the_first_spot_and_the_odd_one_at_the_other(self):
        self.assertEqual(answers([POINT, POINT, tie(point(0), point(1)), LOOK])[2:], [(1, 1, 0), [[0], [1]]])
        self.assertEqual(answers([POINT, POINT, tie(point(1), point(0)), LOOK])[2:], [(1, 1, 0), [[1], [0]]])
        loop = [POINT, tie(point(0), point(0)), POINT]
        self.assertEqual(answers(loop + [tie(end(0), point(1)), LOOK])[3:], [(1, 2, 0), [[0, 2, 1], [3]]])
        self.assertEqual(answers(loop + [tie(point(1), end(0)), LOOK])[3:], [(1, 2, 0), [[0, 3, 1], [2]]])
        self.assertEqual(answers(loop + [tie(end(1), point(1)), LOOK])[3:], [(1, 2, 0), [[0, 1, 2], [3]]])

    def test_both_spots_the_same_point_alone(self):
        self.assertEqual(answers([POINT, tie(point(0), point(0)), LOOK]), [0, (1, 2, 0), [[0, 1]]])
        told = answers([POINT, POINT, POINT, tie(point(1), point(1)), LOOK])
        self.assertEqual(told[3:], [(3, 4, 0), [[], [0, 1], []]])

    def test_both_spots_behind_the_same_end(self):
        # The odd end is put later and so stands nearer.
        first = [POINT, POINT, tie(point(0), point(1))]
        self.assertEqual(answers(first + [tie(end(0), end(0)), LOOK])[3:], [(1, 2, 0), [[0, 3, 2], [1]]])
        self.assertEqual(answers(first + [tie(end(1), end(1)), LOOK])[3:], [(1, 2, 0), [[0], [1, 3, 2]]])
        loop = [POINT, tie(point(0), point(0))]
        self.assertEqual(answers(loop + [tie(end(0), end(0)), LOOK])[2:], [(1, 3, 0), [[0, 3, 2, 1]]])
        self.assertEqual(answers(loop + [tie(end(1), end(1)), LOOK])[2:], [(1, 3, 0), [[0, 1, 3, 2]]])

    def test_spots_behind_two_ends_of_one_point(self):
        loop = [POINT, tie(point(0), point(0))]
        self.assertEqual(answers(loop + [tie(end(0), end(1)), LOOK])[2:], [(1, 1, 1), [[0, 2, 1, 3]]])
        self.assertEqual(answers(loop + [tie(end(1), end(0)), LOOK])[2:], [(1, 1, 1), [[0, 3, 1, 2]]])

    def test_a_whole_day(self):
        told = answers(DAY + [LOOK])
        self.assertEqual(told, [
            0, 1, (1, 1, 0), (1, 2, 0), (1, 1, 1), 2, (2, 3, 1), 3, 4, 5, (4, 5, 1), (4, 6, 1),
            [[0, 2, 4], [1, 3, 5], [6, 7], [], [8, 10], [9, 11]],
        ])

    def test_each_tie_by_a_slow_way(self):
        seen = 0
        for deeds in days():
            rounds = done(deeds[:-1]).look()
            paper = done(deeds[:-1])
            answer = paper.tie(deeds[-1][1], deeds[-1][2])
            told = slow_tied(rounds, deeds[-1][1], deeds[-1][2])
            self.assertEqual(paper.look(), told, deeds)
            self.assertIs(type(answer), tuple)
            self.assertEqual(answer, slow_built(told), deeds)
            self.assertTrue(is_drawing(told))
            seen += 1
        self.assertGreater(seen, 500)

    def test_a_long_day(self):
        deeds = [POINT] + [tie(point(0), point(0))] + [tie(end(2 * k), end(2 * k + 1)) for k in range(59)]
        told = answers(deeds + [LOOK])
        self.assertEqual(told[-2], built(told[-1]))
        self.assertEqual(len(told[-1][0]), 120)
        self.assertEqual(answers([POINT] * 150 + [tie(point(k), point(k + 1)) for k in range(0, 150, 2)])[-1],
                         (75, 75, 0))


class ByHand(unittest.TestCase):
    """[17], [18]"""

    def test_a_paper_by_hand_beside_a_day(self):
        paper = Paper()
        by_hand = []
        for deed in DAY:
            by_hand.append(do(paper, deed))
            by_hand.append(paper.look())
        day = []
        for deed in DAY:
            day += [deed, LOOK]
        self.assertEqual(answers(day), by_hand)

    def test_two_papers_beside_one_another(self):
        one, other = Paper(), Paper()
        self.assertEqual(one.put_point(), 0)
        self.assertEqual(other.look(), [])
        self.assertEqual(one.put_point(), 1)
        self.assertEqual(other.put_point(), 0)
        self.assertEqual(one.tie(point(1), point(0)), (1, 1, 0))
        self.assertEqual(other.look(), [[]])
        self.assertEqual(other.tie(point(0), point(0)), (1, 2, 0))
        self.assertEqual(one.look(), [[1], [0]])
        self.assertEqual(other.look(), [[0, 1]])
        self.assertEqual(answers([LOOK, POINT]), [[], 0])
        self.assertEqual(Paper().look(), [])

    def test_two_days_in_turns(self):
        self.assertEqual(answers(DAY), answers(DAY))


class NoEndRefused(unittest.TestCase):
    """[18]"""

    def wrong_spots(self, rounds):
        count = len(sum(rounds, []))
        spots = [end(number) for number in (-1, -2, -count, -count - 1, count, count + 1, BIG, -BIG)]
        spots += [point(number) for number in (-1, -2, -len(rounds), len(rounds), len(rounds) + 1, BIG, -BIG)]
        spots += [point(number) for number, ends in enumerate(rounds) if ends]
        return [spot for spot in spots if spot not in spots_of(rounds)]

    def test_refused_and_nothing_changed(self):
        for number in range(len(DAY) + 1):
            deeds = DAY[:number]
            rounds = done(deeds).look()
            wrong = self.wrong_spots(rounds)
            pairs = list(product(wrong, spots_of(rounds) + wrong)) + list(product(spots_of(rounds), wrong))
            for one, other in pairs:
                paper = done(deeds)
                with self.assertRaises(NoEnd, msg=(rounds, one, other)):
                    paper.tie(one, other)
                self.assertEqual(paper.look(), rounds)
                told = answers(deeds + [tie(one, other), LOOK, POINT])
                self.assertEqual(told[-3:], ["no end", rounds, len(rounds)])

    def test_no_rope_is_numbered_by_a_refused_tie(self):
        day = [POINT, POINT, tie(end(0), point(0)), tie(point(0), point(2)), tie(point(0), end(0)), LOOK,
               tie(point(1), point(0)), LOOK, tie(point(1), end(0)), LOOK, tie(end(1), end(0)), LOOK]
        self.assertEqual(answers(day), [
            0, 1, "no end", "no end", "no end", [[], []], (1, 1, 0), [[1], [0]], "no end", [[1], [0]], (1, 2, 0),
            [[1, 2], [0, 3]],
        ])

    def test_the_ends_of_the_very_rope_are_not_there_ahead_of_the_deed(self):
        self.assertEqual(answers([POINT, tie(point(0), end(0)), tie(end(1), point(0)), LOOK]),
                         [0, "no end", "no end", [[]]])
        loop = [POINT, tie(point(0), point(0))]
        for one, other in [(end(0), end(2)), (end(3), end(0)), (end(2), end(3)), (end(2), end(2))]:
            self.assertEqual(answers(loop + [tie(one, other), LOOK])[2:], ["no end", [[0, 1]]])

    def test_an_empty_paper_has_no_spot(self):
        for spot in (end(0), point(0), end(-1), point(-1), end(BIG), point(BIG)):
            self.assertEqual(answers([tie(spot, spot), LOOK]), ["no end", []])
            with self.assertRaises(NoEnd):
                Paper().tie(spot, spot)

    def test_a_point_is_alone_no_more_behind_its_first_rope(self):
        day = [POINT, POINT, tie(point(0), point(0)), tie(point(0), point(1)), tie(point(1), point(0)), LOOK]
        self.assertEqual(answers(day)[3:], ["no end", "no end", [[0, 1], []]])


class Spots(unittest.TestCase):
    """[19]"""

    def test_what_a_tie_does_by_the_faces_and_pieces_of_its_spots(self):
        kinds = {"one face": 0, "one piece": 0, "two pieces": 0}
        for deeds in list(days()) + [DAY + [tie(one, other)] for one, other in
                                     product(spots_of(done(DAY).look()), repeat=2)]:
            one, other = deeds[-1][1:]
            rounds = done(deeds[:-1]).look()
            piece_count, face_count, handle_count = slow_built(rounds)
            if face_of_spot(rounds, one) == face_of_spot(rounds, other):
                kind, told = "one face", (piece_count, face_count + 1, handle_count)
            elif piece_of_spot(rounds, one) == piece_of_spot(rounds, other):
                kind, told = "one piece", (piece_count, face_count - 1, handle_count + 1)
            else:
                kind, told = "two pieces", (piece_count - 1, face_count - 1, handle_count)
            kinds[kind] += 1
            self.assertEqual(answers(deeds)[-1], told, deeds)
        self.assertGreater(min(kinds.values()), 100)


class Looks(unittest.TestCase):
    """[1], [17]"""

    def test_looks_do_not_change_by_later_deeds(self):
        paper = Paper()
        looks = []
        for deed in DAY:
            do(paper, deed)
            looks.append(paper.look())
        self.assertEqual(looks, [done(DAY[:number + 1]).look() for number in range(len(DAY))])

    def test_who_changes_a_look_changes_nothing_else(self):
        paper = done(DAY)
        before = done(DAY).look()
        look = paper.look()
        other = paper.look()
        for ends in look:
            ends.append(99)
        look.append([])
        self.assertEqual(paper.look(), before)
        self.assertEqual(other, before)
        self.assertEqual(paper.tie(end(0), point(3)), done(DAY).tie(end(0), point(3)))
        told = answers(DAY + [LOOK, LOOK, POINT, LOOK])
        told[-4][0].append(99)
        told[-4].clear()
        self.assertEqual(told[-3], before)
        self.assertEqual(told[-1], before + [[]])

    def test_points_alone_of_a_look_are_not_one_and_the_same(self):
        look = done([POINT, POINT]).look()
        look[0].append(0)
        self.assertEqual(look, [[0], []])

    def test_the_deeds_stay_the_same_and_are_not_kept(self):
        deeds = DAY + [LOOK]
        handed = list(deeds)
        told = answers(handed)
        self.assertEqual(handed, deeds)
        handed.clear()
        self.assertEqual(told, answers(deeds))
        told.clear()
        self.assertEqual(len(answers(deeds)), len(deeds))


if __name__ == "__main__":
    unittest.main()
