"""Promise 6: line."""

import random
import unittest

from helper import ask, in_order, line, made_up, move, read, reference_line, text_of, truths


class Line(unittest.TestCase):
    def check(self, text, expected):
        self.assertEqual(ask(read(0, text), line(0)), [[0], [0, expected]])

    def test_no_variables(self):
        self.check("p cnf 0 0", 0)
        self.check("p cnf 0 1 0", 0)
        self.check("p cnf 0 0 a 0 e 0", 0)

    def test_true_for_some_first(self):
        self.check("p cnf 1 0", 0)
        self.check("p cnf 1 1 -1 0", 0)
        self.check("p cnf 1 1 1 0", 1)
        self.check("p cnf 3 3 1 2 0 -1 3 0 2 -3 0", 0b010)
        self.check("p cnf 2 1 e 1 0 a 2 0 1 2 0", 0b01)

    def test_false_for_some_first(self):
        self.check("p cnf 1 2 1 0 -1 0", 0)
        self.check("p cnf 2 2 e 1 0 a 2 0 1 -2 0 -1 2 0", 0b10)
        self.check("p cnf 2 3 2 0 1 0 -1 0", 0)

    def test_true_for_all_first(self):
        self.check("p cnf 1 0 a 1 0", 0)
        self.check("p cnf 2 1 a 1 0 e 2 0 1 2 0", 0b10)
        self.check("p cnf 2 2 a 1 0 e 2 0 1 -2 0 -1 2 0", 0b00)

    def test_false_for_all_first(self):
        self.check("p cnf 1 1 a 1 0 1 0", 0)
        self.check("p cnf 1 1 a 1 0 -1 0", 1)
        self.check("p cnf 2 2 a 1 0 e 2 0 -1 2 0 -1 -2 0", 0b01)
        self.check("p cnf 3 1 a 1 2 3 0 1 -2 -3 0", 0b110)

    def test_where_neither_value_helps_it_is_0_and_goes_on_from_there(self):
        self.check("p cnf 3 3 e 1 0 a 2 0 e 3 0 -2 0 1 3 0 1 -3 0", 0b000)
        self.check("p cnf 3 2 e 1 0 a 2 0 e 3 0 -2 0 1 3 0", 0b010)

    def test_bits_are_of_the_order_not_of_the_numbers(self):
        self.check("p cnf 3 1 e 3 1 2 0 3 0", 0b001)
        self.check("p cnf 3 1 e 3 1 2 0 2 0", 0b100)
        self.check("p cnf 4 2 a 1 0 4 0 -1 3 0", 0b0110)

    def test_bits_from_v_on_are_none(self):
        for v in (0, 1, 11, 12, 24):
            units = " ".join(f"{x} 0" for x in range(1, v + 1))
            self.check(f"p cnf {v} {v} {units}", 2 ** v - 1)
            if v > 0:
                self.check(f"p cnf {v} 1 0", 0)
                self.check(f"p cnf {v} 1 {v} 0", 2 ** (v - 1))

    def test_each_bit_is_what_move_says(self):
        chance = random.Random(11)
        for turn in range(60):
            variables = chance.randint(1, 12)
            text = read(1, text_of(variables, *made_up(chance, variables, 14, 4)))
            (zero, values), = ask(text, line(1))[1:]
            self.assertEqual(zero, 0)
            self.assertEqual(values >> variables, 0)
            moves = [move(1, i, values & (2 ** i - 1)) for i in range(variables)]
            self.assertEqual(ask(text, *moves)[1:], [[values >> i & 1] for i in range(variables)])

    def test_asking_twice_gives_the_same(self):
        text = "p cnf 3 2 a 1 0 e 2 0 a 3 0 -1 2 0 1 -2 3 0"
        first = ask(read(0, text), line(0))
        self.assertEqual(ask(read(0, text), line(0), line(0), line(0)), first + first[1:] * 2)


class AgainstTheWords(unittest.TestCase):
    def check(self, variables, blocks, conditions):
        expected = reference_line(truths(variables, blocks, conditions), in_order(variables, blocks)[1])
        self.assertEqual(ask(read(0, text_of(variables, blocks, conditions)), line(0)), [[0], [0, expected]])

    def test_small_sentences(self):
        chance = random.Random(12)
        for turn in range(600):
            variables = chance.randint(0, 7)
            self.check(variables, *made_up(chance, variables, 10, 4))

    def test_middling_sentences(self):
        chance = random.Random(13)
        for variables in (11, 12, 13):
            for turn in range(6):
                self.check(variables, *made_up(chance, variables, 20, 5))


if __name__ == "__main__":
    unittest.main()
