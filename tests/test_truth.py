"""Promises 3 and 4: true and holds."""

import random
import unittest

from helper import ask, holds, made_up, read, text_of, true, truths

HIGHEST = 4294967295


class Truth(unittest.TestCase):
    def check(self, text, expected):
        self.assertEqual(ask(read(0, text), true(0)), [[0], [expected]])

    def test_no_condition_is_true(self):
        for text in ("p cnf 0 0", "p cnf 3 0", "p cnf 2 0 a 1 2 0", "p cnf 24 0 a 1 24 0"):
            self.check(text, 1)

    def test_a_condition_without_literals_is_false(self):
        for text in ("p cnf 0 1 0", "p cnf 2 1 0", "p cnf 2 2 1 0 0", "p cnf 2 1 a 1 2 0 0", "p cnf 24 1 0"):
            self.check(text, 0)

    def test_for_some(self):
        self.check("p cnf 1 1 1 0", 1)
        self.check("p cnf 1 1 -1 0", 1)
        self.check("p cnf 1 2 1 0 -1 0", 0)
        self.check("p cnf 2 3 1 2 0 -1 2 0 1 -2 0", 1)
        self.check("p cnf 2 4 1 2 0 -1 2 0 1 -2 0 -1 -2 0", 0)

    def test_for_all(self):
        self.check("p cnf 1 1 a 1 0 1 0", 0)
        self.check("p cnf 1 1 a 1 0 -1 0", 0)
        self.check("p cnf 1 1 a 1 0 1 -1 0", 1)
        self.check("p cnf 2 1 a 1 2 0 1 2 0", 0)

    def test_the_order_of_kinds_tells(self):
        same = " -1 2 0 1 -2 0"
        self.check("p cnf 2 2 a 1 0 e 2 0" + same, 1)
        self.check("p cnf 2 2 e 2 0 a 1 0" + same, 0)
        self.check("p cnf 2 2 a 1 0" + same, 0)

    def test_a_literal_twice_is_as_once(self):
        self.check("p cnf 1 1 a 1 0 1 1 0", 0)
        self.check("p cnf 1 1 1 1 0", 1)


class Holds(unittest.TestCase):
    def test_nothing_set_is_as_true(self):
        self.assertEqual(ask(read(0, "p cnf 1 1 1 0"), holds(0, 0, 0), holds(0, 0, HIGHEST)), [[0], [1], [1]])
        self.assertEqual(ask(read(0, "p cnf 1 1 a 1 0 1 0"), holds(0, 0, 1)), [[0], [0]])

    def test_all_set(self):
        text = "p cnf 2 1 1 -2 0"
        self.assertEqual(ask(read(0, text), *[holds(0, 2, values) for values in range(4)]),
                         [[0], [1], [1], [0], [1]])

    def test_bits_are_of_the_order_not_of_the_numbers(self):
        text = "p cnf 2 1 e 2 1 0 1 -2 0"
        self.assertEqual(ask(read(0, text), *[holds(0, 2, values) for values in range(4)]),
                         [[0], [1], [0], [1], [1]])

    def test_more_than_all_is_refused(self):
        for v in (0, 1, 5, 24):
            with self.subTest(v=v):
                calls = [holds(0, i, values) for i in (v + 1, v + 2, 32, 4096, HIGHEST) for values in (0, HIGHEST)]
                self.assertEqual(ask(read(0, f"p cnf {v} 0"), *calls), [[0]] + [[-2]] * len(calls))
                self.assertEqual(ask(read(0, f"p cnf {v} 0"), holds(0, v, 0)), [[0], [1]])

    def test_a_refusal_changes_nothing(self):
        self.assertEqual(ask(read(0, "p cnf 1 1 1 0"), holds(0, 2, 0), holds(0, 1, 0), holds(0, 1, 1)),
                         [[0], [-2], [0], [1]])

    def test_no_variables(self):
        self.assertEqual(ask(read(0, "p cnf 0 0"), holds(0, 0, 7), holds(0, 1, 0)), [[0], [1], [-2]])
        self.assertEqual(ask(read(0, "p cnf 0 1 0"), holds(0, 0, 0)), [[0], [0]])

    def test_bits_from_i_on_make_no_difference(self):
        chance = random.Random(4)
        blocks, conditions = [("a", [3, 1]), ("e", [4])], [[1, 2], [-3, 4], [2, 3, -4], [-1, -2, 4]]
        levels = truths(4, blocks, conditions)
        for i in range(5):
            for values in range(2 ** i):
                expected = [int(levels[i][values])]
                above = [0, HIGHEST >> i << i] + [chance.randint(0, HIGHEST) >> i << i for turn in range(5)]
                calls = [holds(0, i, values | high) for high in above]
                self.assertEqual(ask(read(0, text_of(4, blocks, conditions)), *calls), [[0]] + [expected] * len(calls))


class AgainstTheWords(unittest.TestCase):
    def check(self, variables, blocks, conditions, questions):
        levels = truths(variables, blocks, conditions)
        calls = [holds(0, i, values) for i, values in questions]
        expected = [[int(levels[i][values])] for i, values in questions]
        self.assertEqual(ask(read(0, text_of(variables, blocks, conditions)), true(0), *calls),
                         [[0], [int(levels[0][0])]] + expected)

    def test_small_sentences_at_every_setting(self):
        chance = random.Random(3)
        for turn in range(400):
            variables = chance.randint(0, 6)
            blocks, conditions = made_up(chance, variables, 8, 4)
            questions = [(i, values) for i in range(variables + 1) for values in range(2 ** i)]
            self.check(variables, blocks, conditions, questions)

    def test_middling_sentences_at_some_settings(self):
        chance = random.Random(5)
        for variables in (10, 11, 12, 13):
            for turn in range(6):
                blocks, conditions = made_up(chance, variables, 20, 5)
                questions = [(i, chance.randrange(2 ** i)) for i in range(variables + 1) for turn in range(20)]
                self.check(variables, blocks, conditions, questions)


if __name__ == "__main__":
    unittest.main()
