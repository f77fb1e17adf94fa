import unittest

from inkmap.errors import NoDrawing, NoEnd
from inkmap.rounds import is_drawing
from inkmap.shape import built, handles, how_many_faces, is_flat, pieces, without
from tests import drawings
from tests.drawings import interlaced, circle, slow_faces, slow_handles, slow_pieces, small_drawings


class Pieces(unittest.TestCase):
    """[7]"""

    def test_pieces_worked_out_by_hand(self):
        for rounds, told in [
            (drawings.NO_POINTS, []),
            (drawings.ALONE, [[0], [1], [2]]),
            (drawings.ONE_ROPE, [[0, 1]]),
            (drawings.LOOP, [[0]]),
            (drawings.PATH, [[0, 1, 2]]),
            (drawings.SEVERAL_PIECES, [[0], [1, 4, 5], [2], [3]]),
            (drawings.TWO_CROSSED, [[0], [1], [2]]),
            ([[0], [2], [], [1], [3]], [[0, 3], [1, 4], [2]]),
            ([[0], [2, 4], [5], [1, 3]], [[0, 1, 2, 3]]),
            ([[0], [2], [1, 4], [3], [5]], [[0, 2, 4], [1, 3]]),
        ]:
            self.assertEqual(pieces(rounds), told, rounds)

    def test_small_drawings_have_the_pieces_of_a_slow_way(self):
        for rounds in small_drawings():
            self.assertEqual(pieces(rounds), slow_pieces(rounds), rounds)

    def test_great_drawings(self):
        self.assertEqual(pieces(circle(100)), [list(range(100))])
        pairs = [[2 * k] for k in range(50)] + [[2 * k + 1] for k in range(50)]
        self.assertEqual(pieces(pairs), [[k, k + 50] for k in range(50)])


class Built(unittest.TestCase):
    """[6], [8]"""

    def assert_built(self, rounds, told):
        answer = built(rounds)
        self.assertIs(type(answer), tuple)
        self.assertEqual(answer, told, rounds)
        self.assertEqual(how_many_faces(rounds), told[1], rounds)
        self.assertEqual(handles(rounds), told[2], rounds)
        self.assertIs(is_flat(rounds), told[2] == 0, rounds)

    def test_drawings_worked_out_by_hand(self):
        for rounds, told in drawings.BUILT:
            self.assert_built(rounds, told)

    def test_points_alone_count_as_faces_and_need_no_handles(self):
        for rounds, told in drawings.BUILT:
            more = [[]] + rounds + [[], []]
            self.assert_built(more, (told[0] + 3, told[1] + 3, told[2]))

    def test_small_drawings_piece_by_piece(self):
        for rounds in small_drawings():
            faces_told = len(slow_faces(rounds)) + rounds.count([])
            self.assert_built(rounds, (len(slow_pieces(rounds)), faces_told, slow_handles(rounds)))

    def test_many_handles(self):
        for ropes in range(1, 51):
            # Of ropes that all cross each other, two at a time need a handle.
            self.assert_built(interlaced(ropes), (1, 1 + ropes % 2, ropes // 2))

    def test_several_pieces_that_need_handles(self):
        rounds = [[0, 2, 1, 3], [4, 6, 8], [5, 7, 9], [10], [], [11], [12, 14, 13, 15, 16, 18, 17, 19]]
        self.assert_built(rounds, (5, 5, 4))

    def test_hundred_points(self):
        self.assert_built([[] for point in range(100)], (100, 100, 0))
        self.assert_built(circle(100), (1, 2, 0))


class Without(unittest.TestCase):
    """[9]"""

    def test_first_middle_and_last_rope(self):
        rounds = [[0, 2, 4], [5, 3, 1]]
        self.assertEqual(without(rounds, 0), [[2, 0], [1, 3]])
        self.assertEqual(without(rounds, 1), [[0, 2], [3, 1]])
        self.assertEqual(without(rounds, 2), [[0, 2], [3, 1]])

    def test_all_else_stays_in_its_order(self):
        rounds = [[7, 0, 4], [], [6, 3], [5, 1, 2]]
        self.assertEqual(without(rounds, 0), [[1, 4], [], [0, 3], [5, 2]])
        self.assertEqual(without(rounds, 1), [[3, 0, 4], [], [2], [5, 1]])
        self.assertEqual(without(rounds, 2), [[5, 0], [], [4, 3], [1, 2]])
        self.assertEqual(without(rounds, 3), [[0, 4], [], [3], [5, 1, 2]])

    def test_a_rope_from_a_point_to_itself(self):
        self.assertEqual(without([[0, 2, 1, 3]], 0), [[0, 1]])
        self.assertEqual(without([[0, 2, 1, 3]], 1), [[0, 1]])
        self.assertEqual(without([[4], [1, 5, 0, 2], [3]], 0), [[0], [1, 2], [3]])

    def test_the_only_rope(self):
        self.assertEqual(without([[0], [1]], 0), [[], []])
        self.assertEqual(without([[], [1, 0]], 0), [[], []])

    def test_no_such_rope(self):
        for rounds, told in drawings.BUILT:
            ropes = len(sum(rounds, [])) // 2
            for rope in (-1, -2, -ropes - 1, ropes, ropes + 1, 2 * ropes + 1, drawings.BIG, -drawings.BIG):
                with self.assertRaises(NoEnd):
                    without(rounds, rope)

    def test_no_drawing_comes_ahead_of_no_such_rope(self):
        for rounds in drawings.NO_DRAWINGS:
            for rope in (0, -1, len(sum(rounds, [])), drawings.BIG):
                with self.assertRaises(NoDrawing):
                    without(rounds, rope)

    def test_a_drawing_with_one_rope_less_and_never_more_handles(self):
        for rounds in small_drawings():
            ropes = len(sum(rounds, [])) // 2
            for rope in range(ropes):
                left = without(rounds, rope)
                self.assertTrue(is_drawing(left), left)
                self.assertEqual(len(left), len(rounds))
                self.assertEqual(len(sum(left, [])), 2 * ropes - 2)
                self.assertLessEqual(handles(left), handles(rounds))

    def test_names_by_the_words_of_the_document(self):
        for rounds in small_drawings():
            last = len(sum(rounds, [])) // 2 - 1
            for rope in range(last + 1):
                gone = (2 * rope, 2 * rope + 1)
                left = [[end for end in ends if end not in gone] for ends in rounds]
                shift = 2 * (last - rope)
                told = [[end - shift if end >= 2 * last else end for end in ends] for ends in left]
                self.assertEqual(without(rounds, rope), told)


if __name__ == "__main__":
    unittest.main()
