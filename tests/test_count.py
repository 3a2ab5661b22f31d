"""Promise 7: count."""

import random
import unittest

from helper import ask, count, in_order, made_up, read, reference_count, text_of, truths


class Count(unittest.TestCase):
    def check(self, text, expected):
        self.assertEqual(ask(read(1, text), count(1)), [[0], [0, expected]])

    def test_no_variables(self):
        self.check("p cnf 0 0", 1)
        self.check("p cnf 0 1 0", 0)
        self.check("p cnf 0 0 a 0", 1)
        self.check("p cnf 0 2 a 0 e 0 0 0", 0)

    def test_all_are_for_some(self):
        self.check("p cnf 1 0", 2)
        self.check("p cnf 1 1 1 0", 1)
        self.check("p cnf 1 1 0", 0)
        self.check("p cnf 3 1 1 2 3 0", 7)
        self.check("p cnf 3 2 1 0 -2 0", 2)
        self.check("p cnf 3 1 e 3 2 1 0 1 -2 0", 6)

    def test_all_are_for_all(self):
        self.check("p cnf 1 0 a 1 0", 0)
        self.check("p cnf 1 1 a 1 0 1 0", 1)
        self.check("p cnf 1 1 a 1 0 0", 2)
        self.check("p cnf 3 1 a 1 2 3 0 1 2 3 0", 1)
        self.check("p cnf 3 2 a 2 3 1 0 1 0 -2 0", 6)

    def test_some_of_the_variables_for_some(self):
        self.check("p cnf 3 1 e 1 2 0 a 3 0 1 2 3 0", 3)
        self.check("p cnf 3 2 e 1 2 0 a 3 0 1 3 0 2 -3 0", 1)
        self.check("p cnf 3 2 e 1 0 a 2 0 e 3 0 2 3 0 -2 -3 0", 2)

    def test_some_of_the_variables_for_all(self):
        self.check("p cnf 3 1 a 1 2 0 e 3 0 1 2 3 0", 0)
        self.check("p cnf 3 2 a 1 2 0 e 3 0 1 3 0 2 -3 0", 1)
        self.check("p cnf 3 2 a 1 0 e 2 0 a 3 0 1 2 3 0 -2 -3 0", 1)

    def test_blocks_of_one_kind_are_one_party(self):
        self.check("p cnf 3 1 e 1 0 e 2 0 a 3 0 1 2 3 0", 3)
        self.check("p cnf 3 2 a 1 0 a 2 0 e 3 0 1 3 0 2 -3 0", 1)
        self.check("p cnf 3 0 e 1 0 e 2 0 e 3 0", 8)
        self.check("p cnf 3 1 a 1 0 a 2 0 a 3 0 0", 8)

    def test_a_block_of_no_variables_parts_no_party(self):
        self.check("p cnf 3 1 a 0 e 1 0 a 0 e 2 0 a 3 0 1 2 3 0", 3)
        self.check("p cnf 2 1 e 0 a 1 0 e 0 a 2 0 1 2 0", 1)

    def test_those_in_no_block_are_one_party_with_a_block_for_some(self):
        self.check("p cnf 3 0 e 2 0", 8)
        self.check("p cnf 3 1 e 2 0 a 3 0 1 2 3 0", 3)
        self.check("p cnf 4 1 e 2 0 e 4 0 a 3 0 1 2 3 0", 6)

    def test_those_in_no_block_come_before_a_block_for_all(self):
        self.check("p cnf 3 1 a 2 0 e 3 0 1 2 0", 1)
        self.check("p cnf 2 0 a 2 0", 2)
        self.check("p cnf 2 1 a 2 0 2 0", 0)

    def test_large_parties(self):
        clause = " ".join(str(x) for x in range(1, 25)) + " 0"
        members = "24 " + clause.replace(" 24", "")
        self.check("p cnf 24 0", 2 ** 24)
        self.check("p cnf 24 1 0", 0)
        self.check("p cnf 24 1 " + clause, 2 ** 24 - 1)
        self.check(f"p cnf 24 0 a {members}", 0)
        self.check(f"p cnf 24 1 a {members} 0", 2 ** 24)
        self.check(f"p cnf 24 1 a {members} {clause}", 1)
        self.check(f"p cnf 24 2 a {members} 1 0 -24 3 0", 2 ** 24 - 2 ** 22 - 2 ** 21)

    def test_asking_twice_gives_the_same(self):
        self.assertEqual(ask(read(0, "p cnf 3 1 1 2 0"), count(0), count(0)), [[0], [0, 6], [0, 6]])

    def test_a_new_sentence_is_counted_anew(self):
        self.assertEqual(ask(read(0, "p cnf 3 1 1 2 0"), count(0), read(0, "p cnf 1 0"), count(0)),
                         [[0], [0, 6], [0], [0, 2]])


class AgainstTheWords(unittest.TestCase):
    def check(self, variables, blocks, conditions):
        expected = reference_count(truths(variables, blocks, conditions), in_order(variables, blocks)[1])
        self.assertEqual(ask(read(0, text_of(variables, blocks, conditions)), count(0)), [[0], [0, expected]])

    def test_small_sentences(self):
        chance = random.Random(14)
        for turn in range(600):
            variables = chance.randint(0, 7)
            self.check(variables, *made_up(chance, variables, 10, 4))

    def test_middling_sentences(self):
        chance = random.Random(15)
        for variables in (10, 11, 12, 13):
            members = list(range(1, variables + 1))
            for turn in range(6):
                blocks, conditions = made_up(chance, variables, 20, 5)
                self.check(variables, blocks, conditions)
                self.check(variables, [("a", members)], conditions)
                self.check(variables, [("a", members[:-1]), ("e", members[-1:])], conditions)


if __name__ == "__main__":
    unittest.main()
