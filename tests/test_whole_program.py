import unittest
from copy import deepcopy
from inspect import signature

from inkmap.colours import coloured, dense_part
from inkmap.errors import NoColours, NoDrawing, NoEnd, NoRing
from inkmap.paper import Paper, answers
from inkmap.rounds import faces, inside_out, is_drawing, mirrored
from inkmap.shape import built, handles, how_many_faces, is_flat, pieces, without
from inkmap.sides import sides
from inkmap.trees import two_trees
from tests import drawings
from tests.drawings import BIG, beside, circle, grid, twelve


def without_first(rounds):
    return without(rounds, 0)


def sides_of_face(rounds):
    return sides(rounds, faces(rounds)[0])


LISTS_TOLD = (faces, inside_out, mirrored, pieces, without_first, two_trees)
COLOURING = (dense_part, coloured)
NUMBERS_TOLD = (how_many_faces, handles, is_flat, built)
REFUSING = LISTS_TOLD + COLOURING + NUMBERS_TOLD
WITH_ROPES = [rounds for rounds, told in drawings.BUILT if sum(rounds, [])]
# Drawings without ropes from a point to itself, whose first face goes round as a ring.
RINGS = [circle(3), drawings.THREE_FLAT, grid(3, 2), twelve(), [[]] + beside(circle(2), drawings.ONE_ROPE) + [[]]]


def calls():
    """Each function that takes rounds, with drawings that it doesn't refuse."""
    found = [(function, rounds) for function in LISTS_TOLD + NUMBERS_TOLD for rounds in WITH_ROPES + RINGS]
    found += [(function, rounds) for function in COLOURING for rounds in RINGS]
    return found + [(sides_of_face, rounds) for rounds in RINGS]


def spoil(value):
    """Changes every list in what was handed in or answered."""
    if isinstance(value, (list, tuple)):
        for inner in value:
            spoil(inner)
    if isinstance(value, list):
        value.reverse()
        value.append(99)


class Interface(unittest.TestCase):
    def test_names_and_arguments(self):
        for function, names in [
            (is_drawing, ["rounds"]), (faces, ["rounds"]), (inside_out, ["rounds"]), (mirrored, ["rounds"]),
            (pieces, ["rounds"]), (how_many_faces, ["rounds"]), (handles, ["rounds"]), (is_flat, ["rounds"]),
            (built, ["rounds"]), (without, ["rounds", "rope"]), (sides, ["rounds", "ring"]), (two_trees, ["rounds"]),
            (dense_part, ["rounds"]), (coloured, ["rounds"]), (answers, ["deeds"]), (Paper, []),
            (Paper().put_point, []), (Paper().tie, ["one", "other"]), (Paper().look, []),
        ]:
            self.assertEqual(list(signature(function).parameters), names, function)


class NoDrawingRefused(unittest.TestCase):
    """[2]"""

    def test_each_function_but_is_drawing_refuses(self):
        for rounds in drawings.NO_DRAWINGS:
            for function in REFUSING:
                with self.assertRaises(NoDrawing, msg=(function, rounds)):
                    function(rounds)

    def test_ahead_of_any_other_refusal(self):
        for rounds in drawings.NO_DRAWINGS + [[[0, 1, 4]], [[0, 1], [2]], [[0, 1, 0, 1]]]:
            for function in COLOURING:
                with self.assertRaises(NoDrawing, msg=(function, rounds)):
                    function(rounds)
            for number in (0, -1, -2, 99, BIG):
                with self.assertRaises(NoDrawing, msg=rounds):
                    without(rounds, number)
                for ring in ([], [number], [number, number], [0, number]):
                    with self.assertRaises(NoDrawing, msg=(rounds, ring)):
                        sides(rounds, ring)


class NothingChangedOrKept(unittest.TestCase):
    """[1]"""

    def test_what_is_handed_in_stays_the_same(self):
        for function, rounds in calls() + [(is_drawing, rounds) for rounds in WITH_ROPES + drawings.NO_DRAWINGS]:
            handed = deepcopy(rounds)
            function(handed)
            self.assertEqual(handed, rounds, function)

    def test_a_ring_handed_in_stays_the_same_and_is_not_kept(self):
        for rounds in RINGS:
            ring = faces(rounds)[0]
            handed = list(ring)
            answer = sides(rounds, handed)
            before = deepcopy(answer)
            self.assertEqual(handed, ring)
            spoil(handed)
            self.assertEqual(answer, before)
            self.assertEqual(sides(rounds, ring), before)

    def test_what_is_refused_stays_the_same(self):
        for rounds in drawings.NO_DRAWINGS:
            for function in REFUSING:
                handed = deepcopy(rounds)
                with self.assertRaises(NoDrawing):
                    function(handed)
                self.assertEqual(handed, rounds, function)
        for refusal, ring in [(NoEnd, [0, 99]), (NoRing, [0, 1]), (NoRing, [])]:
            handed = (circle(3), list(ring))
            with self.assertRaises(refusal):
                sides(handed[0], handed[1])
            self.assertEqual(handed, (circle(3), ring))
        for function in COLOURING:
            handed = deepcopy(drawings.SEVERAL_PIECES)
            with self.assertRaises(NoColours):
                function(handed)
            self.assertEqual(handed, drawings.SEVERAL_PIECES)

    def test_who_changes_what_was_handed_in_changes_no_answer(self):
        for function, rounds in calls():
            handed = deepcopy(rounds)
            answer = function(handed)
            before = deepcopy(answer)
            spoil(handed)
            self.assertEqual(answer, before, function)
            self.assertEqual(function(deepcopy(rounds)), before, function)

    def test_who_changes_an_answer_changes_nothing_else(self):
        for function, rounds in calls():
            handed = deepcopy(rounds)
            answer = function(handed)
            before = deepcopy(answer)
            spoil(answer)
            self.assertEqual(handed, rounds, function)
            self.assertEqual(function(handed), before, function)

    def test_rounds_that_a_paper_has_told_are_no_part_of_it(self):
        paper = Paper()
        for number in range(3):
            paper.put_point()
        paper.tie(("point", 0), ("point", 1))
        paper.tie(("end", 0), ("end", 1))
        rounds = paper.look()
        told = [function(rounds) for function in REFUSING]
        spoil(paper.look())
        spoil(told)
        self.assertEqual(rounds, [[0, 2], [1, 3], []])
        self.assertEqual(paper.look(), rounds)
        self.assertEqual(paper.tie(("point", 2), ("end", 3)), (1, 2, 0))
        self.assertEqual(rounds, [[0, 2], [1, 3], []])
        self.assertEqual(paper.look(), [[0, 2], [1, 3, 5], [4]])

    def test_no_two_lists_of_an_answer_are_one_and_the_same(self):
        same = []
        for function, rounds in calls() + [(mirrored, [same, same]), (pieces, [same, same]),
                                           (without_first, [[0, 1], same, same]), (two_trees, [same, same])]:
            answer = function(rounds)
            if isinstance(answer, (list, tuple)):
                lists = [inner for inner in answer if isinstance(inner, list)]
                self.assertEqual(len({id(inner) for inner in lists}), len(lists), function)
                self.assertFalse([inner for inner in lists if inner is same], function)


if __name__ == "__main__":
    unittest.main()
