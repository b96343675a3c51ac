"""Texts [24]."""

import unittest

from memoryviews.errors import BadProgram, BadText
from memoryviews.programs import is_program
from memoryviews.texts import program_text, read_program
from tests.cases import ANYTHING, BAD_PROGRAMS, EMPTIES, EMPTY, EVERY, FENCE, FOUR, FULL, HUGE_FOUR, LOCK, LONG, MESSAGE
from tests.cases import SIGNS, random_programs


class TestTexts(unittest.TestCase):

    def check_index(self, text, index):
        with self.assertRaises(BadText) as caught:
            read_program(text)
        self.assertEqual(caught.exception.index, index, text)

    def test_each_form(self):
        for row, text in (
            (("put", 1, 2), "put 1 = 2"), (("give", 1, 0), "give 1 = r0"), (("get", 0, 1), "r0 = get 1"),
            (("swap", 0, 1, 2), "r0 = swap 1 = 2"), (FENCE, "fence"),
        ):
            self.assertEqual(program_text(((row,),)), text + "\n")
            self.assertEqual(read_program(text + "\n"), ((row,),))
        self.assertEqual(program_text(((("only", 0, 2, 3), FENCE, FENCE, FENCE),)), "only r0 = 2: 3; fence; fence; fence\n")

    def test_each_row(self):
        for place in range(4):
            for number in range(4):
                self.assertEqual(program_text(((("put", place, number),),)), "put " + str(place) + " = " + str(number) + "\n")
                for slot in range(3):
                    rows = (("give", place, slot), ("get", slot, place), ("swap", slot, place, number))
                    text = "give {0} = r{1}; r{1} = get {0}; r{1} = swap {0} = {2}\n".format(place, slot, number)
                    self.assertEqual(program_text((rows,)), text)
                    self.assertEqual(read_program(text), (rows,))
        for many in range(1, 16):
            hand = (("only", many % 3, many % 4, many),) + (FENCE,) * many
            text = "only r" + str(many % 3) + " = " + str(many % 4) + ": " + str(many) + "; fence" * many + "\n"
            self.assertEqual([program_text((hand,)), read_program(text)], [text, (hand,)])

    def test_hands(self):
        for program, text in (
            (EMPTY, "\n"), (((), ()), "\n\n"), (EMPTIES, "\n\n\n\n"), (((), (FENCE,), ()), "\nfence\n\n"),
            (MESSAGE, "put 0 = 1; put 1 = 1\nr0 = get 1; r1 = get 0\n"), (((FENCE,) * 16,), "fence; " * 15 + "fence\n"),
        ):
            self.assertEqual(program_text(program), text)
            self.assertEqual(read_program(text), program)

    def test_what_is_written_is_read_back(self):
        for program in random_programs(44, 200, rows=9, places=4) + [SIGNS, FOUR, EVERY, LOCK, LONG, FULL, HUGE_FOUR]:
            text = program_text(program)
            self.assertEqual(text.count("\n"), len(program))
            found = read_program(text)
            self.assertEqual(repr(found), repr(program))

    def test_what_is_read_is_written_so(self):
        # each text that is nearly one can either not be read, or is that of the program that is read
        program = ((("only", 0, 2, 1), ("swap", 2, 1, 3)), (), (("give", 3, 2), ("get", 1, 0), FENCE, ("put", 0, 1)))
        text = program_text(program)
        tried = []
        for at in range(len(text) + 1):
            for sign in " \n;:=r0123456789-+_.\tfe\r":
                tried.append(text[:at] + sign + text[at:])
                tried.append(text[:at] + sign + text[at + 1:])
            tried += [text[:at] + text[at + 1:], text[:at], text[at:], text[:at] + text[at:at + 2] + text[at:]]
        read = []
        for wrong in tried:
            try:
                read.append((wrong, read_program(wrong)))
            except BadText as error:
                self.assertIsInstance(error.index, int)
        self.assertGreater(len({wrong for wrong, _ in read}), 30)
        for wrong, found in read:
            self.assertTrue(is_program(found))
            self.assertEqual(program_text(found), wrong)

    def test_rows_that_cannot_be_read(self):
        for row in (
            " ", "put", "put 0", "put 0 =", "put 0 = ", "put 0 = 4", "put 4 = 0", "put -1 = 0", "put 0 = -1", "put 0 = 1 ",
            " put 0 = 1", "put  0 = 1", "put 0  = 1", "put 0=1", "put 0= 1", "put 0 =1", "put 00 = 1", "put 0 = 01", "put 0 = +1",
            "put 0 = 1.0", "Put 0 = 1", "PUT 0 = 1", "put 0 == 1", "put 0 = 1;", "put 0 = 1; ", "; put 0 = 1", "put 0 = 1;fence",
            "put 0 = 1 ; fence", "put 0 = 1;  fence", "put 0 = 1,fence", "put 0 = r1", "put r0 = 1", "give 0 = 1", "give 0 = r3",
            "give 4 = r0", "give 0 = R0", "give 0 = r 0", "give 0 = r00", "r3 = get 0", "r0 = get 4", "r0 =get 0", "r0= get 0",
            "0 = get 0", "r0 = get r0", "get 0", "r0 = get 0 = 1", "r0 = swap 0", "r0 = swap 0 = 4", "r3 = swap 0 = 0",
            "r0 = swap 4 = 0", "r0 = swap 0 = r0", "fence 0", "fences", "fence;", ";", "; ", "only r0 = 0: 1", "only r0 = 0: 0; fence",
            "only r0 = 0: 2; fence", "only r0 = 0: 01; fence", "only r0 = 0:1; fence", "only r0 = 0 : 1; fence",
            "only r0 = 0; fence", "only 0 = 0: 1; fence", "only r3 = 0: 1; fence", "only r0 = 4: 1; fence",
            "only r0 = 0: -1; fence", "fence; only r0 = 0: 1", "put 0 = \u0661", "put 0 = \u00b9", "put\u00a00 = 1", "put 0 = 1\r",
            "put 0 = 1\t", "\ufeffput 0 = 1", "fence\u2028fence", "fence\x0b", "fence\x0c", "fence\x85", "fence\x1c", "fence\x00",
            "put 0 = 1_0", "('put', 0, 1)", "put True = 1", "put 0 = 1 = 1", "fence; " * 16 + "fence", "skip", "p", "r", "r0",
        ):
            self.check_index(row + "\n", 0)
            self.check_index("\nfence\n" + row + "\n", 2)
            self.check_index("\n" + row + "\n" + row + "\nfence\n", 1)

    def test_the_first_line_that_cannot_be_one(self):
        good = "fence\n"
        for many in range(4):
            self.check_index(good * many + "fences\n" + good, many)
            self.check_index(good * many + "fences\n" + "fences\n", many)
            self.check_index(good * many + "fences\nfence", many)
            self.check_index(good * many + "fences", many)

    def test_a_last_line_that_is_not_terminated(self):
        for many in range(5):
            for rest in ("fence", "fences", " ", "put 0 = 1; fence", "\r"):
                self.check_index("\n" * many + rest, many)
                self.check_index("put 3 = 3\n" * many + rest, many)
        self.check_index("fence\r\n", 0)
        self.check_index("fence\rfence\r", 0)
        self.check_index("fence\n\rfence\n", 1)

    def test_no_line_at_all(self):
        self.check_index("", 0)

    def test_too_many_lines(self):
        self.assertEqual(read_program("\n" * 4), EMPTIES)
        for rest in ("\n", "fence\n", "fence", "fences\n", "\n\n", "\nfences\n", " "):
            self.check_index("\n" * 4 + rest, 4)
        self.check_index("\n" * 3 + "fences\n\n", 3)
        self.check_index("\n" * 10000, 4)

    def test_what_is_no_string(self):
        for thing in ANYTHING + [["fence\n"], ("fence\n",), {"fence\n": 1}, b"fence\n", b"", b"\n", [], EMPTY]:
            if not isinstance(thing, str):
                self.check_index(thing, None)
            else:
                self.check_index(thing, 0)

    def test_wrong_programs(self):
        for program in BAD_PROGRAMS:
            self.assertRaises(BadProgram, program_text, program)
        self.assertRaises(BadProgram, program_text, "\n")


if __name__ == "__main__":
    unittest.main()
