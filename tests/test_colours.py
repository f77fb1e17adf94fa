import unittest
from itertools import combinations

from inkmap.colours import coloured, dense_part
from inkmap.errors import NoColours, NoDrawing
from inkmap.shape import is_flat
from tests import drawings
from tests.drawings import (
    all_joined, beside, by_neighbours, circle, grid, is_loop_free, points_of, small_drawings, stirred,
    stirred_drawings, twelve,
)


def slow_neighbours(rounds):
    point_of = points_of(rounds)
    return [{point_of[end ^ 1] for end in ends} - {point} for point, ends in enumerate(rounds)]


def slow_number(rounds):
    """The greatest d by a search over all sets of points."""
    near = slow_neighbours(rounds)
    greatest = 0
    for size in range(1, len(rounds) + 1):
        for part in combinations(range(len(rounds)), size):
            greatest = max(greatest, min(len(near[point] & set(part)) for point in part))
    return greatest


def without_loops(count):
    """Drawings that look like chance, in which no rope leads from a point to itself."""
    found = []
    seed = 0
    while len(found) < count:
        seed += 1
        rounds = stirred(2 + seed % 7, seed % 11, seed)
        if is_loop_free(rounds):
            found.append(rounds)
    return found


class NoColoursRefused(unittest.TestCase):
    """[15]"""

    def test_a_rope_from_a_point_to_itself(self):
        for rounds in (
            drawings.LOOP, drawings.LOOPS_APART, drawings.LOOPS_CROSSED, drawings.TWO_HANDLES, drawings.SEVERAL_PIECES,
            drawings.TWO_CROSSED, [[0, 2], [1, 3, 5, 4]], [[], [], [1, 0]], [[0, 1]] + [[]] * 5,
            beside(twelve(), drawings.LOOP), beside(drawings.LOOP, twelve()),
        ):
            for function in (dense_part, coloured):
                with self.assertRaises(NoColours, msg=(function, rounds)):
                    function(rounds)

    def test_just_the_small_drawings_with_such_a_rope(self):
        for rounds in small_drawings():
            for function in (dense_part, coloured):
                if is_loop_free(rounds):
                    function(rounds)
                else:
                    with self.assertRaises(NoColours, msg=(function, rounds)):
                        function(rounds)

    def test_no_drawing_comes_ahead(self):
        for rounds in drawings.NO_DRAWINGS + [[[0, 1, 3]], [[0, 1, 1]], [[0, 1], [2]]]:
            for function in (dense_part, coloured):
                with self.assertRaises(NoDrawing, msg=(function, rounds)):
                    function(rounds)


class DensePart(unittest.TestCase):
    """[16]"""

    def assert_dense(self, rounds, number):
        answer = dense_part(rounds)
        self.assertIs(type(answer), tuple)
        told, part = answer
        self.assertEqual(told, number, rounds)
        self.assertIs(type(part), list)
        self.assertEqual(part, sorted(set(part)), rounds)
        self.assertEqual(bool(part), bool(rounds))
        near = slow_neighbours(rounds)
        for point in part:
            self.assertGreaterEqual(len(near[point] & set(part)), number, rounds)

    def test_no_points(self):
        self.assertEqual(dense_part([]), (0, []))

    def test_points_alone(self):
        self.assert_dense([[]], 0)
        self.assertEqual(dense_part([[]]), (0, [0]))
        self.assert_dense(drawings.ALONE, 0)
        self.assert_dense([[] for point in range(100)], 0)

    def test_where_there_is_no_choice(self):
        for rounds, told in [
            (drawings.ONE_ROPE, (1, [0, 1])),
            ([[], [0], [], [1], []], (1, [1, 3])),
            (circle(3), (2, [0, 1, 2])),
            ([[6], [0, 5], [2, 1, 7], [3, 4], []], (2, [1, 2, 3])),
            (all_joined(4), (3, [0, 1, 2, 3])),
            (beside(all_joined(4), circle(5)), (3, [0, 1, 2, 3])),
            (beside(circle(5), all_joined(4)), (3, [5, 6, 7, 8])),
            (twelve(), (5, list(range(12)))),
            (all_joined(10), (9, list(range(10)))),
        ]:
            self.assertEqual(dense_part(rounds), told, rounds)

    def test_ropes_that_join_the_same_points_count_once(self):
        self.assertEqual(dense_part(drawings.THREE_FLAT), (1, [0, 1]))
        self.assertEqual(dense_part(drawings.THREE_TWISTED), (1, [0, 1]))
        self.assert_dense([[0, 2, 4, 6], [1, 3, 8, 10], [5, 7, 9, 11]], 2)
        self.assert_dense([[0, 2, 4, 6], [1, 3, 5, 7, 8, 10], [9, 11]], 1)
        many = [[2 * k for k in range(50)], [2 * k + 1 for k in range(50)]]
        self.assertEqual(dense_part(many), (1, [0, 1]))

    def test_many_neighbours_alone_make_nothing_dense(self):
        star = [[2 * k for k in range(50)]] + [[2 * k + 1] for k in range(50)]
        self.assert_dense(star, 1)
        wheel = by_neighbours([list(range(1, 9))] + [[0, 1 + (k - 2) % 8, 1 + k % 8] for k in range(1, 9)])
        self.assertTrue(is_flat(wheel))
        self.assert_dense(wheel, 3)

    def test_the_densest_part_is_found_behind_thin_ones(self):
        # A tail of points hangs on each point of a dense part.
        near = [[other for other in range(5) if other != point] + [5 + point] for point in range(5)]
        near += [[point, 10 + point] for point in range(5)] + [[5 + point] for point in range(5)]
        self.assertEqual(dense_part(by_neighbours(near)), (4, [0, 1, 2, 3, 4]))

    def test_by_a_search_over_all_sets_of_points(self):
        numbers = []
        for rounds in without_loops(250) + [rounds for rounds in small_drawings() if is_loop_free(rounds)]:
            number = slow_number(rounds)
            self.assert_dense(rounds, number)
            numbers.append(number)
        self.assertEqual(sorted(set(numbers)), [0, 1, 2, 3])
        self.assert_dense(grid(3, 3), slow_number(grid(3, 3)))
        for points in range(1, 9):
            self.assert_dense(all_joined(points), points - 1)

    def test_five_at_the_most_in_flat_drawings(self):
        flat = [rounds for rounds in without_loops(300) if is_flat(rounds)]
        self.assertGreater(len(flat), 50)
        for rounds in flat + [twelve(), grid(5, 5), circle(100), beside(twelve(), [[0], [1]])]:
            self.assertTrue(is_flat(rounds))
            self.assertLessEqual(dense_part(rounds)[0], 5)


class Coloured(unittest.TestCase):
    """[15], [16]"""

    def assert_good(self, rounds):
        colours = coloured(rounds)
        self.assertIs(type(colours), list)
        self.assertEqual(len(colours), len(rounds))
        number = dense_part(rounds)[0]
        point_of = points_of(rounds)
        for colour in colours:
            self.assertTrue(0 <= colour <= number, (rounds, colours))
        for end in point_of:
            self.assertNotEqual(colours[point_of[end]], colours[point_of[end ^ 1]], rounds)

    def test_no_points_and_points_alone(self):
        self.assertEqual(coloured([]), [])
        self.assertEqual(coloured([[]]), [0])
        self.assertEqual(coloured(drawings.ALONE), [0, 0, 0])

    def test_as_few_as_can_be_where_d_says_so(self):
        self.assertEqual(sorted(coloured(drawings.ONE_ROPE)), [0, 1])
        self.assertEqual(sorted(coloured(drawings.THREE_FLAT)), [0, 1])
        self.assertEqual(coloured(drawings.PATH) in ([0, 1, 0], [1, 0, 1]), True)
        self.assertEqual(sorted(coloured(circle(3))), [0, 1, 2])
        self.assertEqual(sorted(coloured(all_joined(10))), list(range(10)))

    def test_a_tree_has_two_colours_in_whatever_order_its_points_are(self):
        # Points coloured just as they are numbered would need a third colour here.
        near = [[8], [8], [8], [9], [9], [9], [10], [10], [0, 1, 2, 9], [3, 4, 5, 8, 10], [6, 7, 9]]
        self.assert_good(by_neighbours(near))

    def test_drawings(self):
        for rounds in [twelve(), grid(4, 5), circle(99), circle(100), beside(all_joined(5), twelve())]:
            self.assert_good(rounds)

    def test_small_and_stirred_drawings(self):
        tried = without_loops(300) + list(small_drawings()) + stirred_drawings()
        for rounds in tried + [stirred(40, 50, seed) for seed in range(60)]:
            if is_loop_free(rounds):
                self.assert_good(rounds)


if __name__ == "__main__":
    unittest.main()
