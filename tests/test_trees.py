import unittest

from inkmap.shape import is_flat
from inkmap.trees import two_trees
from tests import drawings
from tests.drawings import (
    beside, circle, grid, hanging, interlaced, points_of, slow_faces, slow_handles, slow_pieces, small_drawings,
    stirred, stirred_drawings, twelve,
)


def pairs_of(places, ropes):
    place_of = points_of(places)
    return [(place_of[2 * rope], place_of[2 * rope + 1]) for rope in ropes]


class TwoTrees(unittest.TestCase):
    """[14]"""

    def assert_no_ring(self, places, ropes):
        """Each rope, put to those before it, joins two places that didn't hang together."""
        for number, rope in enumerate(ropes):
            mark = hanging(len(places), pairs_of(places, ropes[:number]))
            one, other = pairs_of(places, [rope])[0]
            self.assertNotEqual(mark[one], mark[other], (places, ropes))

    def assert_trees(self, rounds):
        answer = two_trees(rounds)
        self.assertIs(type(answer), tuple)
        first, second, left = answer
        ropes = list(range(len(sum(rounds, [])) // 2))
        told = slow_faces(rounds)
        for chosen in answer:
            self.assertIs(type(chosen), list)
            self.assertEqual(chosen, sorted(chosen), rounds)
        self.assertEqual(sorted(first + second + left), ropes, rounds)
        self.assert_no_ring(rounds, first)
        self.assert_no_ring(told, second)
        # All ropes together join nothing that these ones don't.
        for places, chosen in [(rounds, first), (told, second)]:
            some = hanging(len(places), pairs_of(places, chosen))
            self.assertEqual(some, hanging(len(places), pairs_of(places, ropes)), rounds)
        self.assertEqual(len(left), 2 * slow_handles(rounds), rounds)

    def test_no_points_and_points_alone(self):
        self.assertEqual(two_trees(drawings.NO_POINTS), ([], [], []))
        self.assertEqual(two_trees(drawings.ALONE), ([], [], []))

    def test_where_there_is_no_choice(self):
        for rounds, told in [
            (drawings.ONE_ROPE, ([0], [], [])),
            (drawings.PATH, ([0, 1], [], [])),
            (drawings.LOOP, ([], [0], [])),
            (drawings.LOOPS_APART, ([], [0, 1], [])),
            (drawings.LOOPS_CROSSED, ([], [], [0, 1])),
            (drawings.TWO_HANDLES, ([], [], [0, 1, 2, 3])),
            (drawings.TWO_CROSSED, ([], [], [0, 1, 2, 3])),
            (drawings.SEVERAL_PIECES, ([1, 2], [0], [])),
            (beside(drawings.LOOPS_CROSSED, [[], [0], [1, 2, 3]]), ([2], [3], [0, 1])),
        ]:
            self.assertEqual(two_trees(rounds), told, rounds)
            self.assert_trees(rounds)

    def test_drawings_worked_out_by_hand(self):
        for rounds, (piece_count, face_count, handle_count) in drawings.BUILT:
            self.assert_trees(rounds)
            first, second, left = two_trees(rounds)
            self.assertEqual(len(first), len(rounds) - piece_count)
            # The point alone is a face to itself and a piece to itself.
            self.assertEqual(len(second), face_count - piece_count)
            self.assertEqual(len(left), 2 * handle_count)

    def test_small_drawings(self):
        for rounds in small_drawings():
            self.assert_trees(rounds)

    def test_stirred_drawings(self):
        for rounds in stirred_drawings():
            self.assert_trees(rounds)

    def test_several_pieces(self):
        rounds = beside(beside(drawings.THREE_TWISTED, [[]] + grid(2, 3)), drawings.LOOPS_CROSSED + [[]])
        self.assertEqual(len(slow_pieces(rounds)), 5)
        self.assert_trees(rounds)
        self.assertEqual([len(chosen) for chosen in two_trees(rounds)], [6, 2, 4])

    def test_flat_drawings_leave_none(self):
        for rounds in (grid(4, 4), twelve(), circle(50), beside(twelve(), circle(20))):
            self.assertTrue(is_flat(rounds))
            self.assertEqual(two_trees(rounds)[2], [])
            self.assert_trees(rounds)

    def test_great_drawings(self):
        for rounds in (interlaced(50), interlaced(49), circle(60), stirred(10, 50, 1), stirred(100, 50, 2)):
            self.assert_trees(rounds)


if __name__ == "__main__":
    unittest.main()
