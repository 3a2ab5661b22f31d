"""The interface: how calls are handed in and answered."""

import unittest

from helper import holds, move, order, read, text_of, true
from switchrow.desk import UnknownCall, answers

SAME = "p cnf 2 2 a 1 0 e 2 0 -1 2 0 1 -2 0"


class Answers(unittest.TestCase):
    def test_the_empty_list(self):
        self.assertEqual(answers([]), [])

    def test_each_answer_has_its_count_before_it(self):
        calls = read(0, SAME) + order(0) + true(0) + holds(0, 2, 1) + holds(0, 3, 0) + move(0, 1, 1) + move(0, 2, 0)
        calls += read(1, "p cnf 1 1 0 0") + read(1, "p cnf 0 0") + order(1) + read(1, "") + true(1)
        self.assertEqual(answers(calls), [1, 0, 5, 2, 1, 2, 1, 0, 1, 1, 1, 0, 1, -2, 1, 1, 1, -2,
                                          2, 6, 12, 1, 0, 1, 0, 2, 1, 0, 1, 1])

    def test_whole_numbers_and_lists_alone(self):
        given = answers(read(0, SAME) + order(0) + true(0) + holds(0, 1, 1) + move(0, 1, 1) + holds(0, 9, 0))
        self.assertIs(type(given), list)
        self.assertEqual({type(number) for number in given}, {int})

    def test_what_is_handed_in_stays(self):
        calls = read(0, SAME) + order(0) + true(0) + read(0, "p cnf 9") + holds(0, 2, 3) + move(0, 0, 0)
        before = list(calls)
        answers(calls)
        self.assertEqual(calls, before)

    def test_what_is_handed_in_is_not_changed_for_a_while_either(self):
        class Guarded(list):
            def refuse(self, *words):
                raise AssertionError("the list was changed")
            __setitem__ = __delitem__ = __iadd__ = __imul__ = refuse
            append = extend = insert = pop = remove = clear = reverse = sort = refuse

        calls = read(0, SAME) + order(0) + true(0) + holds(0, 2, 3) + move(0, 0, 0)
        self.assertEqual(answers(Guarded(calls)), answers(calls))

    def test_asked_twice_the_same(self):
        calls = read(0, SAME) + read(1, "p cnf 1 1 a 1 0 1 0") + order(0) + true(0) + true(1) + move(0, 1, 1)
        first = answers(calls)
        answers(read(0, "p cnf 1 1 0") + true(0))
        self.assertEqual(answers(calls), first)

    def test_an_answer_is_a_list_of_its_own(self):
        calls = read(0, SAME) + order(0)
        first = answers(calls)
        kept = list(first)
        first.clear()
        self.assertEqual(answers(calls), kept)
        calls = read(0, SAME) + order(0) + order(0) + order(0)
        self.assertEqual(answers(calls), kept + kept[2:] + kept[2:])

    def test_three_hundred_calls(self):
        calls = read(0, SAME) + 299 * true(0)
        self.assertEqual(answers(calls), [1, 0] + 299 * [1, 1])

    def test_a_number_that_is_no_call(self):
        for number in (-1, 9, 1000):
            with self.assertRaises(UnknownCall):
                answers(read(0, "p cnf 0 0") + [number, 0])


class Size(unittest.TestCase):
    """The largest sentences, whose answers can be told without trying all settings."""

    def pairs(self, first, second):
        blocks = [block for x in range(1, 25, 2) for block in ((first, [x]), (second, [x + 1]))]
        return read(0, text_of(24, blocks, [c for x in range(1, 25, 2) for c in ([x, -x - 1], [-x, x + 1])]))

    def test_one_sets_and_the_other_does_the_same(self):
        calls = self.pairs("a", "e") + true(0) + holds(0, 24, 0xC3F0CF) + holds(0, 24, 0xC3F0CD)
        self.assertEqual(answers(calls), [1, 0, 1, 1, 1, 1, 1, 0])
        moves = [number for i in range(1, 24, 2) for number in move(0, i, 2 ** i - 1) + move(0, i, 0)]
        self.assertEqual(answers(self.pairs("a", "e") + moves), [1, 0] + [1, 1, 1, 0] * 12)

    def test_one_sets_and_the_other_does_not_do_the_same(self):
        calls = self.pairs("e", "a") + true(0) + move(0, 23, 0xFFFFFF) + move(0, 23, 0x3FFFFF) + move(0, 1, 0)
        self.assertEqual(answers(calls), [1, 0, 1, 0, 1, 0, 1, 1, 1, 0])

    def parity(self, blocks):
        """512 conditions: the variables 15 to 24 have an even number of ones among them."""
        odd = [values for values in range(1024) if values.bit_count() % 2 == 1]
        conditions = [[-x if values >> (x - 15) & 1 else x for x in range(15, 25)] for values in odd]
        self.assertEqual(len(conditions), 512)
        return read(0, text_of(24, blocks, conditions))

    def test_five_hundred_and_twelve_conditions(self):
        calls = self.parity([("a", range(15, 24)), ("e", [24])])
        self.assertEqual(answers(calls + true(0) + move(0, 23, 0x3FC000) + move(0, 23, 0x7FC000)),
                         [1, 0, 1, 1, 1, 0, 1, 1])
        calls = self.parity([("e", [24]), ("a", range(15, 24))])
        self.assertEqual(answers(calls + true(0) + holds(0, 24, 0x7FC000) + holds(0, 24, 0xFFC000)),
                         [1, 0, 1, 0, 1, 0, 1, 1])

    def test_many_large_sentences(self):
        calls = read(0, "p cnf 24 2 a 24 0 e 1 0 24 1 0 -24 -1 0") + true(0) + move(0, 23, 0x400000)
        # Compared by hand: unittest's own picture of two long lists that differ takes it half a minute.
        self.assertTrue(answers(calls * 100) == [1, 0, 1, 1, 1, 0] * 100)


if __name__ == "__main__":
    unittest.main()
