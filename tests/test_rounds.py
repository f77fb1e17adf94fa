import unittest

from inkmap.rounds import faces, inside_out, is_drawing, mirrored
from inkmap.shape import built, handles
from tests import drawings
from tests.drawings import from_least, interlaced, circle, slow_faces, small_drawings

FACES = [
    (drawings.NO_POINTS, []),
    (drawings.ALONE, []),
    (drawings.ONE_ROPE, [[0, 1]]),
    ([[1], [0]], [[0, 1]]),
    (drawings.LOOP, [[0], [1]]),
    ([[1, 0]], [[0], [1]]),
    (drawings.LOOPS_APART, [[0, 2], [1], [3]]),
    ([[0, 2, 3, 1]], [[0], [1, 2], [3]]),
    (drawings.LOOPS_CROSSED, [[0, 3, 1, 2]]),
    ([[0, 2], [3, 1]], [[0, 3], [1, 2]]),
    (drawings.THREE_FLAT, [[0, 5], [1, 2], [3, 4]]),
    (drawings.THREE_TWISTED, [[0, 3, 4, 1, 2, 5]]),
    (drawings.TWO_HANDLES, [[0, 3, 1, 2, 4, 7, 5, 6]]),
    (drawings.PATH, [[0, 2, 3, 1]]),
    (drawings.SEVERAL_PIECES, [[0], [1], [2, 3, 5, 4]]),
    (drawings.TWO_CROSSED, [[0, 3, 1, 2], [4, 7, 5, 6]]),
    ([[5], [0, 4], [1, 2], [3]], [[0, 2, 3, 1, 4, 5]]),
]


class IsDrawing(unittest.TestCase):
    """[2]"""

    def test_drawings(self):
        for rounds, told in drawings.BUILT:
            self.assertIs(is_drawing(rounds), True, rounds)

    def test_any_end_may_begin_a_round(self):
        for rounds in ([[1, 0]], [[2, 1, 3, 0]], [[1], [0]], [[3], [2, 0], [], [1]]):
            self.assertIs(is_drawing(rounds), True, rounds)

    def test_all_small_drawings(self):
        for rounds in small_drawings():
            self.assertIs(is_drawing(rounds), True, rounds)

    def test_what_is_no_drawing(self):
        for rounds in drawings.NO_DRAWINGS:
            self.assertIs(is_drawing(rounds), False, rounds)

    def test_an_end_gone_or_twice_or_changed_is_no_drawing(self):
        for rounds, told in drawings.BUILT:
            for point, ends in enumerate(rounds):
                for place, end in enumerate(ends):
                    for other in ([], [end, end], [end + 1000], [-1 - end], [end ^ 1], [end - drawings.BIG]):
                        changed = list(rounds)
                        changed[point] = ends[:place] + other + ends[place + 1:]
                        self.assertIs(is_drawing(changed), False, changed)

    def test_nothing_is_refused_for_its_size(self):
        self.assertIs(is_drawing([[] for point in range(120)]), True)
        self.assertIs(is_drawing(interlaced(60)), True)
        self.assertIs(is_drawing(circle(120)), True)


class Faces(unittest.TestCase):
    """[3], [4], [5]"""

    def test_faces_worked_out_by_hand(self):
        for rounds, told in FACES:
            self.assertEqual(faces(rounds), told, rounds)

    def test_small_drawings_have_the_faces_of_a_slow_way(self):
        for rounds in small_drawings():
            self.assertEqual(faces(rounds), slow_faces(rounds), rounds)

    def test_each_face_from_its_least_end_in_order_and_each_end_once(self):
        for rounds in small_drawings():
            told = faces(rounds)
            firsts = [face[0] for face in told]
            self.assertEqual(firsts, [min(face) for face in told])
            self.assertEqual(firsts, sorted(firsts))
            self.assertEqual(sorted(sum(told, [])), sorted(sum(rounds, [])))

    def test_points_alone_and_the_beginning_of_a_round_make_no_difference(self):
        for rounds in small_drawings():
            turned = [[]] + [ends[-1:] + ends[:-1] for ends in rounds] + [[]]
            self.assertEqual(faces(turned), faces(rounds))

    def test_a_great_drawing(self):
        self.assertEqual(faces(circle(100)), [list(range(0, 200, 2)), [1] + list(range(199, 1, -2))])


class InsideOut(unittest.TestCase):
    """[10]"""

    def test_rounds_are_the_faces(self):
        for rounds, told in FACES:
            self.assertEqual(inside_out(rounds), told, rounds)

    def test_its_faces_are_the_rounds_that_are_not_empty(self):
        for rounds in list(small_drawings()) + [rounds for rounds, told in FACES]:
            filled = sorted(from_least(ends) for ends in rounds if ends)
            self.assertEqual(faces(inside_out(rounds)), filled, rounds)

    def test_as_many_handles(self):
        for rounds in list(small_drawings()) + [rounds for rounds, told in FACES]:
            self.assertEqual(handles(inside_out(rounds)), handles(rounds), rounds)

    def test_points_alone_have_no_point(self):
        self.assertEqual(inside_out([[], [1], [], [0], []]), [[0, 1]])
        self.assertEqual(inside_out(drawings.ALONE), [])


class Mirrored(unittest.TestCase):
    """[11]"""

    def test_each_round_from_the_last_end_to_the_first(self):
        self.assertEqual(mirrored(drawings.NO_POINTS), [])
        self.assertEqual(mirrored(drawings.ALONE), [[], [], []])
        self.assertEqual(mirrored(drawings.LOOP), [[1, 0]])
        self.assertEqual(mirrored(drawings.SEVERAL_PIECES), [[], [4], [1, 0], [], [2, 5], [3]])
        self.assertEqual(mirrored(drawings.TWO_HANDLES), [[7, 5, 6, 4, 3, 1, 2, 0]])
        self.assertEqual(mirrored([[4, 0, 2], [], [1, 5, 3]]), [[2, 0, 4], [], [3, 5, 1]])

    def test_twice_mirrored_is_as_before(self):
        for rounds in small_drawings():
            self.assertEqual(mirrored(mirrored(rounds)), rounds)

    def test_its_faces_are_the_ropes_gone_the_other_way(self):
        for rounds in list(small_drawings()) + [rounds for rounds, told in FACES]:
            back = sorted(from_least([end ^ 1 for end in reversed(face)]) for face in faces(rounds))
            self.assertEqual(faces(mirrored(rounds)), back, rounds)

    def test_as_many_pieces_faces_and_handles(self):
        for rounds in list(small_drawings()) + [rounds for rounds, told in FACES]:
            self.assertEqual(built(mirrored(rounds)), built(rounds), rounds)


if __name__ == "__main__":
    unittest.main()
