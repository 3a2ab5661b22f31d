"""Promise 5: move."""

import random
import unittest

from helper import ask, in_order, made_up, move, read, reference_move, text_of, truths

HIGHEST = 4294967295


class Move(unittest.TestCase):
    def check(self, text, i, values, expected):
        self.assertEqual(ask(read(0, text), move(0, i, values)), [[0], [expected]])

    def test_for_some(self):
        self.check("p cnf 1 0", 0, 0, 0)
        self.check("p cnf 1 1 -1 0", 0, 0, 0)
        self.check("p cnf 1 1 1 0", 0, 0, 1)
        self.check("p cnf 1 2 1 0 -1 0", 0, 0, 0)

    def test_for_all(self):
        self.check("p cnf 1 1 a 1 0 0", 0, 0, 0)
        self.check("p cnf 1 1 a 1 0 1 0", 0, 0, 0)
        self.check("p cnf 1 1 a 1 0 -1 0", 0, 0, 1)
        self.check("p cnf 1 0 a 1 0", 0, 0, 0)

    def test_what_is_set_before_tells(self):
        same = "p cnf 2 2 a 1 0 e 2 0 -1 2 0 1 -2 0"
        self.check(same, 1, 0, 0)
        self.check(same, 1, 1, 1)
        other = "p cnf 2 2 e 1 0 a 2 0 -1 2 0 1 -2 0"
        self.check(other, 1, 0, 1)
        self.check(other, 1, 1, 0)

    def test_what_comes_later_tells(self):
        self.check("p cnf 2 1 e 1 0 a 2 0 1 2 0", 0, 0, 1)
        self.check("p cnf 2 1 e 1 0 a 2 0 -1 2 0", 0, 0, 0)
        self.check("p cnf 2 2 a 1 0 e 2 0 -1 2 0 -1 -2 0", 0, 0, 1)

    def test_bits_are_of_the_order_not_of_the_numbers(self):
        text = "p cnf 3 1 e 3 2 1 0 -3 1 0"
        self.check(text, 2, 1, 1)
        self.check(text, 2, 2, 0)

    def test_all_set_and_more_is_refused(self):
        for v in (0, 1, 5, 24):
            with self.subTest(v=v):
                calls = [move(0, i, values) for i in (v, v + 1, 32, 4096, HIGHEST) for values in (0, HIGHEST)]
                self.assertEqual(ask(read(0, f"p cnf {v} 0"), *calls), [[0]] + [[-2]] * len(calls))

    def test_a_refusal_changes_nothing(self):
        self.assertEqual(ask(read(0, "p cnf 1 1 1 0"), move(0, 1, 0), move(0, 0, 0)), [[0], [-2], [1]])

    def test_bits_from_i_on_make_no_difference(self):
        text = "p cnf 3 2 a 1 0 e 2 0 a 3 0 -1 2 0 1 -2 3 0"
        for i in range(3):
            for values in range(2 ** i):
                plain = ask(read(0, text), move(0, i, values))
                for above in (2 ** i, HIGHEST >> i << i):
                    self.assertEqual(ask(read(0, text), move(0, i, values | above)), plain)


class AgainstTheWords(unittest.TestCase):
    def check(self, variables, blocks, conditions, questions):
        levels = truths(variables, blocks, conditions)
        kinds = in_order(variables, blocks)[1]
        calls = [move(0, i, values) for i, values in questions]
        expected = [[reference_move(levels, kinds, i, values)] for i, values in questions]
        self.assertEqual(ask(read(0, text_of(variables, blocks, conditions)), *calls), [[0]] + expected)

    def test_small_sentences_at_every_setting(self):
        chance = random.Random(6)
        for turn in range(400):
            variables = chance.randint(0, 6)
            blocks, conditions = made_up(chance, variables, 8, 4)
            self.check(variables, blocks, conditions, [(i, k) for i in range(variables) for k in range(2 ** i)])

    def test_middling_sentences_at_some_settings(self):
        chance = random.Random(7)
        for variables in (11, 12, 13):
            for turn in range(6):
                blocks, conditions = made_up(chance, variables, 20, 5)
                questions = [(i, chance.randrange(2 ** i)) for i in range(variables) for turn in range(20)]
                self.check(variables, blocks, conditions, questions)


if __name__ == "__main__":
    unittest.main()
