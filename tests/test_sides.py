import unittest
from itertools import permutations, product

from inkmap.errors import NoDrawing, NoEnd, NoRing
from inkmap.rounds import mirrored
from inkmap.shape import is_flat
from inkmap.sides import sides
from tests import drawings
from tests.drawings import (
    BIG, beside, circle, grid, hanging, points_of, slow_faces, slow_pieces, small_drawings, stirred_drawings, twelve,
)

# Two points, three ropes between them, and a rope from the second point to itself between the first and second rope.
WITH_LOOP = [[0, 2, 4], [5, 3, 6, 7, 1]]


def slow_is_ring(rounds, ring):
    point_of = points_of(rounds)
    starts = [point_of[end] for end in ring]
    for place, end in enumerate(ring):
        if point_of[end ^ 1] != starts[(place + 1) % len(ring)]:
            return False
        if starts.count(starts[place]) > 1 or end ^ 1 in ring:
            return False
    return len(ring) > 0


def slow_sides(rounds, ring):
    told = slow_faces(rounds)
    face_of = points_of(told)
    off = [end for end in face_of if end not in ring and end ^ 1 not in ring]
    mark = hanging(len(told), [(face_of[end], face_of[end ^ 1]) for end in off])
    one = [face for face in range(len(told)) if mark[face] == mark[face_of[ring[0]]]]
    other = [face for face in range(len(told)) if mark[face] == mark[face_of[ring[0] ^ 1]]]
    return ("one", one) if one == other else ("two", one, other)


def tried_rings(rounds):
    """All lists of up to three ends, with and without the same end twice."""
    ends = sorted(sum(rounds, []))
    for length in range(min(3, len(ends)) + 1):
        yield from product(ends, repeat=length)


def rings(rounds, longest):
    ends = sorted(sum(rounds, []))
    for length in range(1, longest + 1):
        for ring in permutations(ends, length):
            if slow_is_ring(rounds, ring):
                yield list(ring)


class Rings(unittest.TestCase):
    """[12]"""

    def assert_no_ring(self, rounds, ring):
        with self.assertRaises(NoRing, msg=(rounds, ring)):
            sides(rounds, ring)

    def test_no_ends(self):
        for rounds, told in drawings.BUILT:
            self.assert_no_ring(rounds, [])

    def test_a_rope_between_two_points_by_itself(self):
        for rounds, ring in [(drawings.ONE_ROPE, [0]), (drawings.ONE_ROPE, [1]), (drawings.THREE_FLAT, [4])]:
            self.assert_no_ring(rounds, ring)

    def test_a_rope_twice(self):
        for ring in ([0, 1], [1, 0]):
            self.assert_no_ring(drawings.ONE_ROPE, ring)
            self.assert_no_ring(drawings.LOOP, ring)
        for ring in ([0, 1], [5, 4], [0, 3, 2, 1], [0, 0]):
            self.assert_no_ring(drawings.THREE_FLAT, ring)
        for ring in ([0, 2, 3, 1], [0, 0, 0], [2, 3]):
            self.assert_no_ring(circle(3), ring)

    def test_a_point_twice(self):
        for rounds in (drawings.LOOPS_APART, drawings.LOOPS_CROSSED, drawings.TWO_HANDLES):
            for ring in ([0, 2], [2, 0], [0, 3], [1, 3]):
                self.assert_no_ring(rounds, ring)
        self.assert_no_ring(drawings.LOOP, [0, 0])
        for ring in ([6, 1, 2], [1, 2, 6], [1, 4, 7]):
            self.assert_no_ring(WITH_LOOP, ring)
        # Two rings that have a point in common.
        eight = [[0, 3, 4, 7], [1, 2], [5, 6]]
        self.assertEqual(sides(eight, [0, 2])[0], "two")
        self.assertEqual(sides(eight, [4, 6])[0], "two")
        self.assert_no_ring(eight, [0, 2, 4, 6])

    def test_ends_that_do_not_lead_round(self):
        for ring in ([0, 2], [1, 3], [0, 2, 4], [0, 3, 4], [0, 3, 5], [2, 4]):
            self.assert_no_ring(drawings.THREE_FLAT, ring)
        for ring in ([0, 2], [2, 0], [0, 4, 2], [1, 3, 5], [0, 2, 5], [0]):
            self.assert_no_ring(circle(3), ring)
        self.assert_no_ring(drawings.PATH, [0, 2])
        # Rings of two pieces one after the other.
        self.assert_no_ring([[0, 1], [2, 3]], [0, 2])

    def test_a_number_that_is_no_end(self):
        for rounds, told in drawings.BUILT:
            count = len(sum(rounds, []))
            for number in (-1, -2, -count, -count - 1, count, count + 1, BIG, -BIG, BIG + 1):
                if not 0 <= number < count:
                    for ring in ([number], [number, number], [number ^ 1, number]):
                        with self.assertRaises(NoEnd, msg=(rounds, ring)):
                            sides(rounds, ring)

    def test_no_end_comes_ahead_of_no_ring(self):
        for number in (-1, -2, -6, 6, BIG, -BIG):
            for ring in ([0, number], [number, 0], [0, 0, number], [0, 3, number], [0, 1, 0, 1, number]):
                with self.assertRaises(NoEnd, msg=ring):
                    sides(drawings.THREE_FLAT, ring)

    def test_no_drawing_comes_ahead_of_both(self):
        for rounds in drawings.NO_DRAWINGS:
            for ring in ([], [0], [0, 1], [0, 0], [-1], [BIG]):
                with self.assertRaises(NoDrawing, msg=(rounds, ring)):
                    sides(rounds, ring)

    def test_all_short_lists_in_small_drawings(self):
        tried = 0
        for number, rounds in enumerate(small_drawings()):
            if number % 8 in (0, 1, 5):
                for ring in tried_rings(rounds):
                    if slow_is_ring(rounds, ring):
                        self.assertEqual(sides(rounds, list(ring)), slow_sides(rounds, ring), (rounds, ring))
                        tried += 1
                    else:
                        self.assert_no_ring(rounds, list(ring))
        self.assertGreater(tried, 500)


class Sides(unittest.TestCase):
    """[5], [13]"""

    def test_worked_out_by_hand(self):
        for rounds, ring, told in [
            (drawings.LOOP, [0], ("two", [0], [1])),
            (drawings.LOOP, [1], ("two", [1], [0])),
            (drawings.LOOPS_APART, [0], ("two", [0, 2], [1])),
            (drawings.LOOPS_APART, [3], ("two", [2], [0, 1])),
            (drawings.LOOPS_CROSSED, [0], ("one", [0])),
            (drawings.LOOPS_CROSSED, [3], ("one", [0])),
            (drawings.THREE_FLAT, [0, 3], ("two", [0, 2], [1])),
            (drawings.THREE_FLAT, [3, 0], ("two", [0, 2], [1])),
            (drawings.THREE_FLAT, [1, 2], ("two", [1], [0, 2])),
            (drawings.THREE_FLAT, [2, 1], ("two", [1], [0, 2])),
            (drawings.THREE_FLAT, [4, 3], ("two", [2], [0, 1])),
            (drawings.THREE_TWISTED, [0, 3], ("one", [0])),
            (drawings.TWO_HANDLES, [4], ("one", [0])),
            (drawings.SEVERAL_PIECES, [0], ("two", [0], [1])),
            (drawings.TWO_CROSSED, [6], ("one", [1])),
        ]:
            answer = sides(rounds, ring)
            self.assertIs(type(answer), tuple)
            self.assertEqual(answer, told, (rounds, ring))

    def test_faces_of_other_pieces_are_on_no_side(self):
        for rounds in (beside(drawings.LOOP, circle(3)), [[]] + beside(drawings.LOOP, circle(3)) + [[]]):
            self.assertEqual(sides(rounds, [0]), ("two", [0], [1]))
            self.assertEqual(sides(rounds, [2, 4, 6]), ("two", [2], [3]))
            self.assertEqual(sides(rounds, [7, 5, 3]), ("two", [3], [2]))
        rounds = beside(drawings.LOOPS_CROSSED, drawings.THREE_FLAT)
        self.assertEqual(sides(rounds, [0]), ("one", [0]))
        self.assertEqual(sides(rounds, [4, 7]), ("two", [1, 3], [2]))

    def test_a_rope_from_a_side_to_itself_makes_no_difference(self):
        # A rope hangs into one face of a ring.
        rounds = [[0, 4, 3], [1, 2], [5]]
        self.assertEqual(slow_faces(rounds), [[0, 2], [1, 4, 5, 3]])
        self.assertEqual(sides(rounds, [0, 2]), ("two", [0], [1]))

    def test_one_side_or_two_where_handles_are_needed(self):
        # A ring that cuts a handle off has two sides, though the drawing isn't flat.
        rounds = [[0, 2, 1, 3, 4, 5]]
        self.assertFalse(is_flat(rounds))
        self.assertEqual(slow_faces(rounds), [[0, 3, 1, 2, 4], [5]])
        self.assertEqual(sides(rounds, [4]), ("two", [0], [1]))
        self.assertEqual(sides(rounds, [5]), ("two", [1], [0]))
        self.assertEqual(sides(rounds, [0]), ("one", [0, 1]))
        self.assertEqual(sides(rounds, [3]), ("one", [0, 1]))

    def test_a_great_ring(self):
        self.assertEqual(sides(circle(100), list(range(0, 200, 2))), ("two", [0], [1]))
        self.assertEqual(sides(circle(100), list(range(199, 0, -2))), ("two", [1], [0]))

    def test_flat_drawings_have_two_sides_with_all_faces_of_the_piece(self):
        flat = [drawings.THREE_FLAT, WITH_LOOP, grid(3, 3), twelve(), beside(grid(2, 3), circle(4))]
        flat += [rounds for rounds in stirred_drawings() if is_flat(rounds)]
        flat += [rounds for number, rounds in enumerate(small_drawings()) if number % 4 == 2 and is_flat(rounds)]
        for rounds in flat:
            told = slow_faces(rounds)
            face_of = points_of(told)
            longest = 3 if len(sum(rounds, [])) < 30 else 2
            for ring in list(rings(rounds, longest)):
                word, one, other = sides(rounds, ring)
                self.assertEqual(word, "two")
                self.assertTrue({face_of[end] for end in ring} <= set(one))
                self.assertTrue({face_of[end ^ 1] for end in ring} <= set(other))
                piece = [piece for piece in slow_pieces(rounds) if points_of(rounds)[ring[0]] in piece][0]
                own = {face_of[end] for point in piece for end in rounds[point]}
                self.assertEqual(sorted(one + other), sorted(own))
                self.assertEqual((one, other), (sorted(one), sorted(other)))

    def test_squares_of_a_grid(self):
        rounds = grid(3, 3)
        self.assertTrue(is_flat(rounds))
        told = slow_faces(rounds)
        squares = [number for number, face in enumerate(told) if len(face) == 4]
        self.assertEqual(len(squares), 4)
        for number in squares:
            rest = [face for face in range(5) if face != number]
            self.assertEqual(sides(rounds, told[number]), ("two", [number], rest))
            back = [end ^ 1 for end in reversed(told[number])]
            self.assertEqual(sides(rounds, back), ("two", rest, [number]))

    def test_stirred_drawings_as_by_a_slow_way(self):
        words = []
        for rounds in stirred_drawings():
            if len(sum(rounds, [])) <= 18:
                for ring in rings(rounds, 3):
                    answer = sides(rounds, ring)
                    self.assertEqual(answer, slow_sides(rounds, ring), (rounds, ring))
                    self.assertEqual(answer, sides(rounds, ring[1:] + ring[:1]))
                    words.append(answer[0])
        self.assertGreater(words.count("one"), 100)
        self.assertGreater(words.count("two"), 100)

    def test_a_mirrored_drawing_has_as_many_sides(self):
        for rounds in stirred_drawings():
            for ring in rings(rounds, 1):
                self.assertEqual(sides(rounds, ring)[0], sides(mirrored(rounds), ring)[0])


if __name__ == "__main__":
    unittest.main()
