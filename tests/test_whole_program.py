import unittest
from copy import deepcopy

from inkmap.errors import NoDrawing
from inkmap.rounds import faces, inside_out, is_drawing, mirrored
from inkmap.shape import built, handles, how_many_faces, is_flat, pieces, without
from tests import drawings


def without_first(rounds):
    return without(rounds, 0)


LISTS_TOLD = (faces, inside_out, mirrored, pieces, without_first)
REFUSING = LISTS_TOLD + (how_many_faces, handles, is_flat, built)
WITH_ROPES = [rounds for rounds, told in drawings.BUILT if sum(rounds, [])]


class NoDrawingRefused(unittest.TestCase):
    """[2]"""

    def test_each_function_but_is_drawing_refuses(self):
        for rounds in drawings.NO_DRAWINGS:
            for function in REFUSING:
                with self.assertRaises(NoDrawing, msg=(function, rounds)):
                    function(rounds)


class NothingChangedOrKept(unittest.TestCase):
    """[1]"""

    def test_what_is_handed_in_stays_the_same(self):
        for rounds in WITH_ROPES:
            for function in REFUSING + (is_drawing,):
                handed = deepcopy(rounds)
                function(handed)
                self.assertEqual(handed, rounds, function)

    def test_what_is_refused_stays_the_same(self):
        for rounds in drawings.NO_DRAWINGS:
            for function in REFUSING:
                handed = deepcopy(rounds)
                with self.assertRaises(NoDrawing):
                    function(handed)
                self.assertEqual(handed, rounds, function)

    def test_who_changes_what_was_handed_in_changes_no_answer(self):
        for rounds in WITH_ROPES:
            for function in LISTS_TOLD:
                handed = deepcopy(rounds)
                answer = function(handed)
                before = deepcopy(answer)
                for ends in handed:
                    ends.append(99)
                handed.clear()
                self.assertEqual(answer, before, function)
                self.assertEqual(function(deepcopy(rounds)), before, function)

    def test_who_changes_an_answer_changes_nothing_else(self):
        for rounds in WITH_ROPES:
            for function in LISTS_TOLD:
                handed = deepcopy(rounds)
                answer = function(handed)
                before = deepcopy(answer)
                for told in answer:
                    told.append(99)
                answer.clear()
                self.assertEqual(handed, rounds, function)
                self.assertEqual(function(handed), before, function)

    def test_lists_of_an_answer_are_not_one_and_the_same(self):
        same = []
        for function in (mirrored, pieces):
            answer = function([same, same])
            answer[0].append(99)
            self.assertEqual(answer[1], function([same, same])[1], function)
        answer = without([[0, 1], same, same], 0)
        answer[1].append(99)
        self.assertEqual(answer, [[], [99], []])
        self.assertEqual(same, [])


if __name__ == "__main__":
    unittest.main()
