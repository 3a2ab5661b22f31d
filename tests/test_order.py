"""Promise 2: order."""

import random
import unittest

from helper import ask, in_order, made_up, order, read, text_of


class Order(unittest.TestCase):
    def check(self, text, expected):
        self.assertEqual(ask(read(1, text), order(1)), [[0], expected])

    def test_no_variables(self):
        self.check("p cnf 0 0", [0])

    def test_no_block(self):
        self.check("p cnf 4 0", [4, 1, 2, 3, 4, 0, 0, 0, 0])

    def test_blocks_as_they_stand(self):
        self.check("p cnf 4 0 e 4 2 0 a 3 1 0", [4, 4, 2, 3, 1, 0, 0, 1, 1])

    def test_those_in_no_block_come_first_the_lower_first(self):
        self.check("p cnf 6 0 a 5 0 e 2 0", [6, 1, 3, 4, 6, 5, 2, 0, 0, 0, 0, 1, 0])
        self.check("p cnf 3 0 a 1 0", [3, 2, 3, 1, 0, 0, 1])

    def test_empty_blocks_and_blocks_of_one_kind_behind_each_other(self):
        self.check("p cnf 3 0 a 0 a 3 0 a 0 a 1 0 e 0", [3, 2, 3, 1, 0, 1, 1])

    def test_conditions_make_no_difference(self):
        self.check("p cnf 3 2 a 2 0 3 0 2 1 0", [3, 1, 3, 2, 0, 0, 1])

    def test_all_twenty_four(self):
        text = text_of(24, [("a", range(24, 0, -1))], [])
        self.check(text, [24] + list(range(24, 0, -1)) + [1] * 24)

    def test_asking_twice_gives_the_same(self):
        text = "p cnf 3 0 a 2 0"
        self.assertEqual(ask(read(0, text), order(0), order(0)), [[0]] + [[3, 1, 3, 2, 0, 0, 1]] * 2)

    def test_made_up_blocks(self):
        chance = random.Random(2)
        for turn in range(200):
            variables = chance.randint(0, 24)
            blocks = made_up(chance, variables, 0, 0)[0]
            row, kinds = in_order(variables, blocks)
            self.check(text_of(variables, blocks, []), [variables] + row + kinds)


if __name__ == "__main__":
    unittest.main()
