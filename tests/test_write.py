"""Promise 9: write."""

import random
import unittest

from helper import ask, count, line, made_up, order, read, reference_text, text_of, true, write


class Write(unittest.TestCase):
    def check(self, text, expected):
        self.assertEqual(ask(read(0, text), write(0)), [[0], [0] + list(expected.encode("ascii"))])

    def test_the_bytes(self):
        self.assertEqual(ask(read(0, "p cnf 2 2 a 1 0 e 2 0 -1 2 0 0"), write(0))[1],
                         [0, 112, 32, 99, 110, 102, 32, 50, 32, 50, 10, 97, 32, 49, 32, 48, 10, 101, 32, 50, 32, 48, 10,
                          45, 49, 32, 50, 32, 48, 10, 48, 10])

    def test_no_variables(self):
        self.check("p cnf 0 0", "p cnf 0 0\n")
        self.check("p cnf 0 2 0 0", "p cnf 0 2\n0\n0\n")
        self.check("p cnf 0 1 a 0 e 0 0", "p cnf 0 1\n0\n")

    def test_no_conditions(self):
        self.check("p cnf 2 0 a 1 0", "p cnf 2 0\ne 2 0\na 1 0\n")
        self.check("p cnf 1 0 a 1 0", "p cnf 1 0\na 1 0\n")

    def test_no_block(self):
        self.check("p cnf 3 1 2 -3 0", "p cnf 3 1\ne 1 2 3 0\n2 -3 0\n")

    def test_runs_of_one_kind(self):
        self.check("p cnf 4 0 a 4 0 a 2 0 e 3 0 e 1 0", "p cnf 4 0\na 4 2 0\ne 3 1 0\n")
        self.check("p cnf 4 0 e 3 0 e 2 0", "p cnf 4 0\ne 1 4 3 2 0\n")
        self.check("p cnf 3 0 a 2 0 a 1 0 a 3 0", "p cnf 3 0\na 2 1 3 0\n")
        self.check("p cnf 4 0 e 3 0 a 2 0 e 1 0", "p cnf 4 0\ne 4 3 0\na 2 0\ne 1 0\n")

    def test_blocks_of_no_variables(self):
        self.check("p cnf 2 0 a 0 e 1 0 a 0 e 2 0 a 0", "p cnf 2 0\ne 1 2 0\n")
        self.check("p cnf 3 0 e 0 a 1 0 e 0 a 3 0 e 2 0 a 0", "p cnf 3 0\na 1 3 0\ne 2 0\n")

    def test_conditions_as_they_stood(self):
        self.check("p cnf 2 4 0 2 1 2 2 0 -1 1 -1 0 0", "p cnf 2 4\ne 1 2 0\n0\n2 1 2 2 0\n-1 1 -1 0\n0\n")
        self.check("p cnf 12 2 e 12 1 2 3 4 5 6 7 8 9 10 11 0 -12 10 0 12 -10 0",
                   "p cnf 12 2\ne 12 1 2 3 4 5 6 7 8 9 10 11 0\n-12 10 0\n12 -10 0\n")
        self.check("p cnf 1 3 1 0 1 0 1 0", "p cnf 1 3\ne 1 0\n1 0\n1 0\n1 0\n")

    def test_blanks_and_line_ends_of_the_text_are_not_kept(self):
        self.check(" \n p\ncnf  2\n\n1   a\n1 0\n\n 2\n-1   0 \n\n", "p cnf 2 1\ne 2 0\na 1 0\n2 -1 0\n")

    def test_after_the_sentence_was_worked_out(self):
        text = read(0, "p cnf 2 2 a 1 0 1 -1 0 2 2 0")
        plain = ask(text, write(0))[1]
        self.assertEqual(ask(text, true(0), line(0), count(0), write(0), write(0))[4:], [plain, plain])

    def test_made_up_sentences(self):
        chance = random.Random(17)
        for turn in range(300):
            variables = chance.randint(0, 24)
            blocks, conditions = made_up(chance, variables, 20, 6)
            self.check(text_of(variables, blocks, conditions), reference_text(variables, blocks, conditions))


class ReadAgain(unittest.TestCase):
    def test_what_is_written_is_the_same_sentence(self):
        chance = random.Random(18)
        for turn in range(200):
            variables = chance.randint(0, 8)
            text = text_of(variables, *made_up(chance, variables, 12, 4))
            questions = [order(0), true(0), line(0), count(0), write(0)]
            first = ask(read(0, text), *questions)
            written = first[-1][1:]
            self.assertEqual(ask(read(0, written), *questions), first)


class Length(unittest.TestCase):
    def check_long(self, literals, length):
        """A text without blocks, whose written text of this length is six bytes longer: the block of its variable."""
        text = "p cnf 1 1\n" + literals + "0\n"
        self.assertEqual(len(text) + 6, length)
        asked = ask(read(0, text), write(0), order(0), write(0))
        expected = list(("p cnf 1 1\ne 1 0\n" + literals + "0\n").encode("ascii"))
        answer = [0] + expected if length <= 65536 else [-1]
        # Compared by hand: unittest's own picture of two long lists that differ takes it half a minute.
        self.assertTrue(asked == [[0], answer, [1, 1, 0], answer])

    def test_the_longest_that_the_interface_allows(self):
        head, end = "p cnf 24 1 ", " 0"
        literals = "-24 " * 7495
        text = head + literals + "1" + end
        text += " " * (29995 - len(text))
        self.assertEqual(len(read(0, text) + write(0)), 30000)
        conditions = [[-24] * 7495 + [1]]
        expected = reference_text(24, [], conditions)
        self.assertGreater(len(expected), 30000)
        self.assertTrue(ask(read(0, text), write(0)) == [[0], [0] + list(expected.encode("ascii"))])

    # No list of 30000 numbers holds a text that is written with more than 65536 bytes, so these are longer ones.
    def test_the_longest_that_is_written(self):
        self.check_long("1 " * 32759, 65536)
        self.check_long("1 " * 32757 + "-1 ", 65535)

    def test_longer_ones(self):
        self.check_long("1 " * 32758 + "-1 ", 65537)
        self.check_long("1 " * 32760, 65538)

    def test_a_refused_one_stays_the_objects_sentence(self):
        text = "p cnf 1 1\n" + "1 " * 32760 + "0\n"
        self.assertEqual(ask(read(0, text), write(0), true(0), line(0), count(0)), [[0], [-1], [1], [0, 1], [0, 1]])


if __name__ == "__main__":
    unittest.main()
