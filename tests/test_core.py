"""Promise 8: core."""

import random
import unittest

from helper import ask, core, made_up, read, text_of, true, truths

CORE = -55


class Core(unittest.TestCase):
    def check(self, text, expected):
        self.assertEqual(ask(read(0, text), core(0)), [[0], [expected]])

    def test_true_sentences_have_none(self):
        for text in ("p cnf 0 0", "p cnf 3 0", "p cnf 2 0 a 1 2 0", "p cnf 1 1 1 0", "p cnf 1 1 a 1 0 1 -1 0",
                     "p cnf 2 2 a 1 0 e 2 0 -1 2 0 1 -2 0", "p cnf 24 1 a 1 0 1 24 0"):
            self.check(text, -1)

    def test_false_sentences(self):
        for text in ("p cnf 1 2 1 0 -1 0", "p cnf 1 1 a 1 0 1 0", "p cnf 2 2 e 2 0 a 1 0 -1 2 0 1 -2 0",
                     "p cnf 3 4 3 0 1 0 -1 0 -3 2 0", "p cnf 24 2 24 0 -24 0"):
            self.check(text, CORE)

    def test_no_variables(self):
        self.check("p cnf 0 0", -1)
        self.check("p cnf 0 1 0", CORE)
        self.check("p cnf 0 2 0 0", CORE)

    def test_a_condition_without_literals(self):
        self.check("p cnf 2 1 0", CORE)
        self.check("p cnf 2 3 1 0 0 2 0", CORE)
        self.check("p cnf 2 1 a 1 2 0 0", CORE)

    def test_made_up_sentences(self):
        chance = random.Random(16)
        seen = set()
        for turn in range(300):
            variables = chance.randint(0, 6)
            blocks, conditions = made_up(chance, variables, 8, 4)
            truth = int(truths(variables, blocks, conditions)[0][0])
            seen.add(truth)
            self.assertEqual(ask(read(1, text_of(variables, blocks, conditions)), core(1), true(1), core(1)),
                             [[0], [-1 if truth else CORE], [truth], [-1 if truth else CORE]])
        self.assertEqual(seen, {0, 1})


if __name__ == "__main__":
    unittest.main()
