"""Promise 1: read."""

import unittest

from helper import ask, holds, order, read, true
from switchrow.desk import answers

# Each with what order and true answer of it.
RIGHT_TEXTS = [
    ("p cnf 0 0", [0], 1),
    ("p cnf 0 0\n", [0], 1),
    ("p cnf 0 1 0", [0], 0),
    ("p cnf 0 2 0 0", [0], 0),
    ("p cnf 0 0 a 0 e 0", [0], 1),
    ("p cnf 2 0", [2, 1, 2, 0, 0], 1),
    ("p cnf 2 1\n1 2 0\n", [2, 1, 2, 0, 0], 1),
    ("p cnf 2 1 a 0 1 2 0", [2, 1, 2, 0, 0], 1),
    ("p cnf 1 1 a 1 0 0", [1, 1, 1], 0),
    ("p cnf 1 1 e 1 0 0", [1, 1, 0], 0),
    ("p cnf 2 2 a 1 0 0 -1 2 0", [2, 2, 1, 0, 1], 0),
    ("p cnf 2 2 a 1 0 e 2 0 -1 2 0 1 -2 0", [2, 1, 2, 1, 0], 1),
    ("p cnf 2 0 a 2 1 0", [2, 2, 1, 1, 1], 1),
    ("p cnf 1 1 1 -1 1 1 0", [1, 1, 0], 1),
    ("p cnf 1 1 a 1 0 1 -1 0", [1, 1, 1], 1),
    ("  \n \n  p \n\n cnf   2\n1   a\n\n1 \n0  e 2\n0 \n 1   -2\n\n 0 \n\n  ", [2, 1, 2, 1, 0], 1),
]

HEAD_FAULTS = [
    ("", 1, 0),
    ("   ", 1, 3),
    ("\n \n", 1, 3),
    ("q cnf 1 0", 1, 0),
    ("P cnf 1 0", 1, 0),
    ("pp cnf 1 0", 1, 0),
    ("  pcnf 1 0", 1, 2),
    ("p", 1, 1),
    ("p \n", 1, 3),
    ("p CNF 1 0", 1, 2),
    ("p  dnf 1 0", 1, 3),
    ("p cnf", 1, 5),
    ("p cnf ", 1, 6),
    ("p cnf x 0", 1, 6),
    ("p cnf -1 0", 1, 6),
    ("p cnf +1 0", 1, 6),
    ("p cnf 01 0", 1, 6),
    ("p cnf 00 0", 1, 6),
    ("p cnf 1a 0", 1, 6),
    ("p cnf 1.0 0", 1, 6),
    ("p cnf 1000000000 0", 1, 6),
    ("p cnf 0000000001 0", 1, 6),
    ("p cnf 1", 1, 7),
    ("p cnf 1\n\n", 1, 9),
    ("p cnf 1 x", 1, 8),
    ("p cnf 1 a", 1, 8),
    ("p cnf 1 00", 1, 8),
    ("p cnf 1 -0", 1, 8),
    ("p cnf 1 1000000000", 1, 8),
    ("p cnf 1:0 0", 1, 6),
    ("p cnf 1/ 0", 1, 6),
    ("p\tcnf 1 0", 1, 0),
    ("p cnf 1\r0", 1, 6),
    ("p cnf 1 0\r", 1, 8),
]

SIZE_FAULTS = [
    ("p cnf 25 0", 2, 6),
    ("p cnf  25", 2, 7),
    ("p cnf 25 x", 2, 6),
    ("p cnf 25 513", 2, 6),
    ("p cnf 999999999 0", 2, 6),
    ("p cnf 24 513", 2, 9),
    ("p cnf 0 513 q", 2, 8),
    ("p cnf 0\n\n999999999", 2, 9),
]

BLOCK_FAULTS = [
    ("p cnf 2 0 a", 3, 11),
    ("p cnf 2 0 a  \n", 3, 14),
    ("p cnf 2 0 e 1 2", 3, 15),
    ("p cnf 2 0 a 1 0 e 2", 3, 19),
    ("p cnf 2 0 a x 0", 3, 12),
    ("p cnf 2 0 a 3 0", 3, 12),
    ("p cnf 2 0 a -1 0", 3, 12),
    ("p cnf 2 0 a 01 0", 3, 12),
    ("p cnf 2 0 a 00", 3, 12),
    ("p cnf 2 0 a -0", 3, 12),
    ("p cnf 2 0 a 1 1 0", 3, 14),
    ("p cnf 2 0 a 1 0 e  2 1 0", 3, 21),
    ("p cnf 2 0 a 1 0 a 1 0", 3, 18),
    ("p cnf 2 0 a e 1 0", 3, 12),
    ("p cnf 2 0 a a 1 0", 3, 12),
    ("p cnf 0 0 e 1 0", 3, 12),
    ("p cnf 2 0 a 1000000001 0", 3, 12),
    ("p cnf 2 0 a 1\t0", 3, 12),
]

LITERAL_FAULTS = [
    ("p cnf 2 1 x", 4, 10),
    ("p cnf 2 1 1 x 0", 4, 12),
    ("p cnf 2 1 3 0", 4, 10),
    ("p cnf 2 1 -3 0", 4, 10),
    ("p cnf 2 1 -0", 4, 10),
    ("p cnf 2 1 - 1 0", 4, 10),
    ("p cnf 2 1 --1 0", 4, 10),
    ("p cnf 2 1 1- 0", 4, 10),
    ("p cnf 2 1 +1 0", 4, 10),
    ("p cnf 2 1 01 0", 4, 10),
    ("p cnf 2 1 -01 0", 4, 10),
    ("p cnf 2 1 00", 4, 10),
    ("p cnf 2 1 aa 1 0", 4, 10),
    ("p cnf 2 1 a1 0", 4, 10),
    ("p cnf 2 1 1 a", 4, 12),
    ("p cnf 2 2 1 0 a 2 0 2 0", 4, 14),
    ("p cnf 2 2 1 0 e 2 0", 4, 14),
    ("p cnf 2 1 a 1 0 A 2 0", 4, 16),
    ("p cnf 0 1 1 0", 4, 10),
    ("p cnf 2 2 1 0 -2 p 0", 4, 17),
    ("p cnf 2 1 -1000000001 0", 4, 10),
    ("p cnf 2 1 1\t0", 4, 10),
]

SHORT_FAULTS = [
    ("p cnf 2 1", 5, 9),
    ("p cnf 2 1\n\n", 5, 11),
    ("p cnf 2 1 1", 5, 11),
    ("p cnf 2 1 1 -2  ", 5, 16),
    ("p cnf 2 2 1 0", 5, 13),
    ("p cnf 2 1 a 1 0", 5, 15),
    ("p cnf 0 512" + " 0" * 511, 5, 11 + 2 * 511),
]

BEHIND_FAULTS = [
    ("p cnf 0 0 0", 6, 10),
    ("p cnf 2 0 x", 6, 10),
    ("p cnf 2 0 1 0", 6, 10),
    ("p cnf 2 0 a 1 0 0", 6, 16),
    ("p cnf 2 1 1 0 0", 6, 14),
    ("p cnf 2 1 1 0  \n 2 0", 6, 17),
    ("p cnf 2 1 1 0 a 1 0", 6, 14),
    ("p cnf 2 1 1 0 e", 6, 14),
    ("p cnf 2 1 1 0 \r", 6, 14),
]

ALL_FAULTS = HEAD_FAULTS + SIZE_FAULTS + BLOCK_FAULTS + LITERAL_FAULTS + SHORT_FAULTS + BEHIND_FAULTS


class RightTexts(unittest.TestCase):
    def test_right_texts(self):
        for text, ordered, truth in RIGHT_TEXTS:
            with self.subTest(text=text):
                self.assertEqual(ask(read(0, text), order(0), true(0)), [[0], ordered, [truth]])

    def test_bytes_that_part_tokens_are_two_alone(self):
        for byte in range(256):
            with self.subTest(byte=byte):
                text = [112, byte] + list(b"cnf 0 0")
                self.assertEqual(ask(read(0, text)), [[0]] if byte in (10, 32) else [[1, 0]])

    def test_digits_are_ten_bytes_alone(self):
        for byte in range(256):
            if byte not in (10, 32):
                with self.subTest(byte=byte):
                    text = list(b"p cnf 1") + [byte] + list(b" 0")
                    self.assertEqual(ask(read(0, text)), [[0]] if 48 <= byte <= 57 else [[1, 6]])


class Faults(unittest.TestCase):
    def check(self, rows):
        for text, fault, place in rows:
            with self.subTest(text=text):
                self.assertEqual(answers(read(0, text)), [2, fault, place])

    def test_head(self):
        self.check(HEAD_FAULTS)

    def test_size(self):
        self.check(SIZE_FAULTS)

    def test_block(self):
        self.check(BLOCK_FAULTS)

    def test_literal(self):
        self.check(LITERAL_FAULTS)

    def test_short(self):
        self.check(SHORT_FAULTS)

    def test_behind(self):
        self.check(BEHIND_FAULTS)

    def test_a_text_cut_behind_each_of_its_tokens(self):
        tokens = "p cnf 2 2 a 1 0 e 2 0 -1 2 0 1 -2 0".split()
        faults = [1, 1, 1, 1, 5, 3, 3, 5, 3, 3, 5, 5, 5, 5, 5, 5]
        self.assertEqual(len(faults), len(tokens))
        for kept, fault in enumerate(faults):
            text = " ".join(tokens[:kept])
            with self.subTest(text=text):
                self.assertEqual(ask(read(0, text)), [[fault, len(text)]])
                self.assertEqual(ask(read(0, text + " \n")), [[fault, len(text) + 2]])


class SizeEdges(unittest.TestCase):
    def test_variables(self):
        ordered = [24] + list(range(1, 25)) + [0] * 24
        self.assertEqual(ask(read(0, "p cnf 24 0"), order(0)), [[0], ordered])
        self.assertEqual(ask(read(0, "p cnf 24 1 24 -24 0")), [[0]])
        self.assertEqual(ask(read(0, "p cnf 24 1 25 0")), [[4, 11]])
        self.assertEqual(ask(read(0, "p cnf 25 0")), [[2, 6]])

    def test_conditions(self):
        self.assertEqual(ask(read(0, "p cnf 0 512" + " 0" * 512), true(0)), [[0], [0]])
        self.assertEqual(ask(read(0, "p cnf 1 512" + " 1 0" * 512), true(0)), [[0], [1]])
        self.assertEqual(ask(read(0, "p cnf 0 513" + " 0" * 513)), [[2, 8]])
        self.assertEqual(ask(read(0, "p cnf 0 512" + " 0" * 513)), [[6, 11 + 2 * 512 + 1]])

    def test_longest_text_of_the_interface(self):
        text = "p cnf 1 1 " + "1 " * 14992 + " 0"
        self.assertEqual(len(text), 29996)
        self.assertEqual(ask(read(0, text)), [[0]])

    def test_a_text_that_is_too_long_is_refused(self):
        short = "p cnf 1 1 1 0"
        kept = [[0], [1, 1, 0]]
        longest = short + " " * (65536 - len(short))
        self.assertEqual(ask(read(0, longest), order(0)), kept)
        self.assertEqual(ask(read(0, short), read(0, longest + " "), order(0)), [[0], [-2], [1, 1, 0]])
        self.assertEqual(ask(read(0, " " * 65536)), [[1, 65536]])
        self.assertEqual(ask(read(0, " " * 65537)), [[-2]])


class WhatTheObjectHas(unittest.TestCase):
    def test_after_a_fault_it_is_as_it_was(self):
        before = read(0, "p cnf 3 2 a 2 0 e 3 0 2 3 0 -2 -3 1 0")
        questions = [order(0), true(0), holds(0, 2, 2), holds(0, 3, 6)]
        expected = [[3, 1, 2, 3, 0, 1, 0], [1], [1], [0]]
        self.assertEqual(ask(before, *questions), [[0]] + expected)
        for text, fault, place in ALL_FAULTS:
            with self.subTest(text=text):
                self.assertEqual(ask(before, read(0, text), *questions), [[0], [fault, place]] + expected)
                self.assertEqual(ask(before, *questions, read(0, text), *questions),
                                 [[0]] + expected + [[fault, place]] + expected)

    def test_a_new_object_reads_on_after_a_fault(self):
        self.assertEqual(ask(read(1, "p cnf 2 1 e 1"), read(1, "p cnf 1 0"), order(1)), [[3, 13], [0], [1, 1, 0]])

    def test_a_sentence_takes_the_place_of_the_one_before(self):
        first = read(0, "p cnf 2 1 a 1 0 1 0")
        second = read(0, "p cnf 1 1 -1 0")
        self.assertEqual(ask(first, true(0), second, order(0), true(0), holds(0, 1, 1), first, order(0), true(0)),
                         [[0], [0], [0], [1, 1, 0], [1], [0], [0], [2, 2, 1, 0, 1], [0]])

    def test_two_objects_are_apart(self):
        calls = [read(0, "p cnf 1 1 1 0"), read(1, "p cnf 2 1 a 2 0 2 0"), order(0), order(1), true(0), true(1)]
        expected = [[0], [0], [1, 1, 0], [2, 1, 2, 0, 1], [1], [0]]
        self.assertEqual(ask(*calls), expected)
        self.assertEqual(ask(*calls, read(1, "x"), read(0, "p cnf 0 1 0"), order(0), order(1), true(0), true(1)),
                         expected + [[1, 0], [0], [0], [2, 1, 2, 0, 1], [0], [0]])


if __name__ == "__main__":
    unittest.main()
