"""Programs [2], and what goes with two views [7]."""

import unittest
from itertools import product

from memoryviews.errors import BadProgram
from memoryviews.messages import together
from memoryviews.programs import is_program, places_of
from tests.cases import BAD_PROGRAMS, BAD_ROWS, EMPTIES, EMPTY, EVERY, FENCE, FOUR, LONG


class TestPrograms(unittest.TestCase):

    def test_programs(self):
        for program in (EMPTY, EMPTIES, LONG, EVERY, FOUR, (LONG[0],) * 4, ((("only", 0, 0, 15),) + (FENCE,) * 15,)):
            self.assertIs(is_program(program), True, program)

    def test_each_row(self):
        rows = [("put", place, value) for place, value in product(range(4), range(4))]
        rows += [("give", place, held) for place, held in product(range(4), range(3))]
        rows += [("get", held, place) for place, held in product(range(4), range(3))]
        rows += [("swap", held, place, value) for held, place, value in product(range(3), range(4), range(4))]
        rows += [("only", held, value, many) for held, value, many in product(range(3), range(4), range(1, 16))]
        for row in rows:
            self.assertIs(is_program(((row,) + (FENCE,) * 15,)), True, row)

    def test_an_only_has_its_rows_behind(self):
        for behind in range(16):
            for many in range(-1, 18):
                program = ((("only", 1, 2, many),) + (FENCE,) * behind,)
                self.assertIs(is_program(program), 1 <= many <= behind, (many, behind))

    def test_no_programs(self):
        for thing in BAD_PROGRAMS:
            self.assertIs(is_program(thing), False, thing)
            self.assertRaises(BadProgram, places_of, thing)

    def test_wrong_rows_are_refused_wherever_they_stand(self):
        for row in BAD_ROWS:
            for program in (((row, FENCE),), ((FENCE,), (row, FENCE)), ((), (), (), (FENCE, row, FENCE))):
                self.assertIs(is_program(program), False, program)

    def test_numbers_of_hands_and_rows(self):
        for many in range(7):
            self.assertIs(is_program(((),) * many), 1 <= many <= 4)
        for many in range(14, 19):
            self.assertIs(is_program(((FENCE,) * many,)), many <= 16)

    def test_places(self):
        self.assertEqual(places_of(EMPTY), [])
        self.assertEqual(places_of(((FENCE, ("only", 2, 3, 1), FENCE),)), [])
        self.assertEqual(places_of(EVERY), [1, 2, 3])
        self.assertEqual(places_of(((("get", 2, 1), ("give", 0, 2)), (("swap", 1, 3, 2),))), [0, 1, 3])
        self.assertEqual(places_of(((("put", 3, 0), ("put", 3, 1), ("put", 2, 0)),)), [2, 3])

    def test_what_is_returned_is_new(self):
        places = places_of(EVERY)
        places.append(7)
        self.assertEqual(places_of(EVERY), [1, 2, 3])

    def test_together(self):
        self.assertEqual(together((0, 3, 2, 1), (1, 2, 2, 0)), (1, 3, 2, 1))
        self.assertEqual(together((0, 0, 0, 0), (0, 0, 0, 0)), (0, 0, 0, 0))
        self.assertEqual(together((5, 0, 0, 9), (0, 6, 7, 0)), (5, 6, 7, 9))


if __name__ == "__main__":
    unittest.main()
