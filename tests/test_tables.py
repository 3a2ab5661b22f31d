"""The tables behind true, holds, move, line and count, bit by bit."""

import random
import unittest

from helper import in_order, made_up, truths
from switchrow.tables import false_tables, ones_in


def whole(table):
    """A table's words as one number."""
    return sum(word << (2048 * k) for k, word in enumerate(table))


class Tables(unittest.TestCase):
    def check(self, variables, blocks, conditions):
        row, kinds = in_order(variables, blocks)
        tables = false_tables(row, kinds, conditions)
        levels = truths(variables, blocks, conditions)
        self.assertEqual(len(tables), variables + 1)
        for table, level in zip(tables, levels):
            self.assertTrue(all(0 <= word < 2 ** 2048 for word in table))
            self.assertTrue(whole(table) == sum(1 << k for k, truth in enumerate(level) if not truth))

    def test_no_bit_stands_beside_the_settings(self):
        self.check(2, [("a", [1, 2])], [[1, 2]])
        self.check(2, [("a", [1, 2])], [[]])
        self.check(3, [("a", [2])], [[-1, 2], [3, -2]])

    def test_made_up_sentences(self):
        chance = random.Random(8)
        for variables in list(range(11)) * 5 + [11, 12, 13]:
            blocks, conditions = made_up(chance, variables, 8, 4)
            self.check(variables, blocks, conditions)


class Ones(unittest.TestCase):
    def test_one_word(self):
        chance = random.Random(9)
        words = [0, 1, 2 ** 2047, 2 ** 2048 - 1, 2 ** 1024, 2 ** 32 - 1, 2 ** 33 - 2]
        words += [2 ** k for k in range(0, 2048, 31)] + [chance.getrandbits(2048) for turn in range(50)]
        for word in words:
            self.assertEqual(ones_in([word]), word.bit_count())

    def test_many_words(self):
        chance = random.Random(10)
        for depth in range(12, 18):
            table = [chance.getrandbits(2048) for turn in range(2 ** (depth - 11))]
            kept = list(table)
            self.assertEqual(ones_in(table), sum(word.bit_count() for word in kept))
            self.assertTrue(table == kept)

    def test_the_fullest_table(self):
        self.assertEqual(ones_in([2 ** 2048 - 1] * 8192), 2 ** 24)
        self.assertEqual(ones_in([0] * 8192), 0)


if __name__ == "__main__":
    unittest.main()
