"""The interface: how calls are handed in and answered."""

import unittest

from helper import (ask, core, count, holds, in_order, line, move, order, read, reference_text, text_of, true,
                    write)
from switchrow.desk import UnknownCall, answers

SAME = "p cnf 2 2 a 1 0 e 2 0 -1 2 0 1 -2 0"
OTHER = "p cnf 3 2 a 3 0 a 1 0 e 2 0 -1 2 0 -1 -2 0"


def whole_calls(chosen):
    """The calls that are handed nothing but the object."""
    return [order(chosen), true(chosen), line(chosen), count(chosen), core(chosen), write(chosen)]


def all_calls(chosen, text):
    """All nine calls, one behind another."""
    ordered, truth, *rest = whole_calls(chosen)
    return [read(chosen, text), ordered, truth, holds(chosen, 2, 1), move(chosen, 1, 1)] + rest


def in_one(calls):
    return [number for call in calls for number in call]


class Answers(unittest.TestCase):
    def test_the_empty_list(self):
        self.assertEqual(answers([]), [])

    def test_each_answer_has_its_count_before_it(self):
        calls = read(0, SAME) + order(0) + true(0) + holds(0, 2, 1) + holds(0, 3, 0) + move(0, 1, 1) + move(0, 2, 0)
        calls += read(1, "p cnf 1 1 0 0") + read(1, "p cnf 0 0") + order(1) + read(1, "") + true(1)
        self.assertEqual(answers(calls), [1, 0, 5, 2, 1, 2, 1, 0, 1, 1, 1, 0, 1, -2, 1, 1, 1, -2,
                                          2, 6, 12, 1, 0, 1, 0, 2, 1, 0, 1, 1])

    def test_all_nine_calls_on_both_objects(self):
        same = [1, 0, 5, 2, 1, 2, 1, 0, 1, 1, 1, 0, 1, 1, 2, 0, 0, 2, 0, 0, 1, -1]
        same += [37] + [0] + list(b"p cnf 2 2\na 1 0\ne 2 0\n-1 2 0\n1 -2 0\n")
        other = [1, 0, 7, 3, 3, 1, 2, 1, 1, 0, 1, 0, 1, 1, 1, 1, 2, 0, 2, 2, 0, 2, 1, -55]
        other += [40] + [0] + list(b"p cnf 3 2\na 3 1 0\ne 2 0\n-1 2 0\n-1 -2 0\n")
        self.assertEqual(answers(in_one(all_calls(0, SAME))), same)
        self.assertEqual(answers(in_one(all_calls(1, OTHER))), other)
        self.assertEqual(answers(in_one(all_calls(0, SAME) + all_calls(1, OTHER))), same + other)
        self.assertEqual(answers(in_one(all_calls(0, OTHER) + all_calls(1, SAME))), other + same)
        self.assertEqual(answers(in_one(all_calls(0, SAME) + all_calls(0, OTHER))), same + other)
        turns = [call for pair in zip(all_calls(0, SAME), all_calls(1, OTHER)) for call in pair]
        pairs = zip(ask(*all_calls(0, SAME)), ask(*all_calls(1, OTHER)))
        self.assertEqual(ask(*turns), [answer for pair in pairs for answer in pair])

    def test_no_call_but_read_changes_the_object(self):
        for text in (SAME, OTHER, "p cnf 0 0", "p cnf 0 1 0", "p cnf 2 1 a 1 2 0 1 1 -2 0"):
            alone = [ask(read(1, text), call)[1] for call in whole_calls(1)]
            for first in whole_calls(1) + [holds(1, 0, 0), move(1, 0, 0), holds(1, 99, 7), move(1, 99, 7)]:
                with self.subTest(text=text, first=first):
                    self.assertEqual(ask(read(1, text), first, *whole_calls(1))[2:], alone)

    def test_a_fault_leaves_every_answer_as_it_was(self):
        for text in (SAME, OTHER):
            before = ask(read(0, text), *whole_calls(0))
            for wrong in ("", "p cnf 25 0", "p cnf 1 513", "p cnf 1 0 a 2 0", "p cnf 1 1 x", "p cnf 1 1 1",
                          "p cnf 0 0 0"):
                with self.subTest(text=text, wrong=wrong):
                    fault = ask(read(0, wrong))
                    self.assertNotEqual(fault, [[0]])
                    self.assertEqual(ask(read(0, text), read(0, wrong), *whole_calls(0)),
                                     before[:1] + fault + before[1:])
                    self.assertEqual(ask(read(0, text), *whole_calls(0), read(0, wrong), *whole_calls(0)),
                                     before + fault + before[1:])

    def test_whole_numbers_and_lists_alone(self):
        given = answers(in_one(all_calls(0, SAME) + all_calls(1, OTHER)) + holds(0, 9, 0) + read(0, "p cnf 9"))
        self.assertIs(type(given), list)
        self.assertEqual({type(number) for number in given}, {int})

    def test_what_is_handed_in_stays(self):
        calls = in_one(all_calls(0, SAME) + all_calls(1, OTHER)) + read(0, "p cnf 9")
        before = list(calls)
        answers(calls)
        self.assertEqual(calls, before)

    def test_what_is_handed_in_is_not_changed_for_a_while_either(self):
        class Guarded(list):
            def refuse(self, *words):
                raise AssertionError("the list was changed")
            __setitem__ = __delitem__ = __iadd__ = __imul__ = refuse
            append = extend = insert = pop = remove = clear = reverse = sort = refuse

        calls = in_one(all_calls(0, SAME) + all_calls(1, OTHER)) + read(0, "p cnf 9")
        self.assertEqual(answers(Guarded(calls)), answers(calls))

    def test_asked_twice_the_same(self):
        calls = in_one(all_calls(0, SAME) + all_calls(1, OTHER))
        first = answers(calls)
        self.assertEqual(answers(calls), first)
        answers(in_one(all_calls(0, OTHER) + all_calls(1, "p cnf 2 1 0")))
        self.assertEqual(answers(calls), first)

    def test_an_answer_is_a_list_of_its_own(self):
        calls = read(0, SAME) + order(0)
        first = answers(calls)
        kept = list(first)
        first.clear()
        self.assertEqual(answers(calls), kept)
        calls = read(0, SAME) + order(0) + order(0) + order(0)
        self.assertEqual(answers(calls), kept + kept[2:] + kept[2:])
        written = answers(read(0, SAME) + write(0))
        self.assertEqual(answers(read(0, SAME) + write(0) * 3), written + written[2:] * 2)

    def test_three_hundred_calls(self):
        calls = read(0, SAME) + 299 * true(0)
        self.assertEqual(answers(calls), [1, 0] + 299 * [1, 1])
        for call in whole_calls(0):
            once = answers(read(0, SAME) + call)
            self.assertTrue(answers(read(0, SAME) + 299 * call) == once[:2] + 299 * once[2:], call)
        block = in_one(all_calls(0, SAME) + all_calls(1, OTHER))
        self.assertTrue(answers(16 * block) == 16 * answers(block))

    def test_a_number_that_is_no_call(self):
        for number in (-1, 9, 1000):
            with self.assertRaises(UnknownCall):
                answers(read(0, "p cnf 0 0") + [number, 0])


class Size(unittest.TestCase):
    """The largest sentences, whose answers can be told without trying all settings."""

    def pairs(self, first, second):
        blocks = [block for x in range(1, 25, 2) for block in ((first, [x]), (second, [x + 1]))]
        return read(0, text_of(24, blocks, [c for x in range(1, 25, 2) for c in ([x, -x - 1], [-x, x + 1])]))

    def test_one_sets_and_the_other_does_the_same(self):
        calls = self.pairs("a", "e") + true(0) + holds(0, 24, 0xC3F0CF) + holds(0, 24, 0xC3F0CD)
        self.assertEqual(answers(calls), [1, 0, 1, 1, 1, 1, 1, 0])
        moves = [number for i in range(1, 24, 2) for number in move(0, i, 2 ** i - 1) + move(0, i, 0)]
        self.assertEqual(answers(self.pairs("a", "e") + moves), [1, 0] + [1, 1, 1, 0] * 12)

    def test_one_sets_and_the_other_does_not_do_the_same(self):
        calls = self.pairs("e", "a") + true(0) + move(0, 23, 0xFFFFFF) + move(0, 23, 0x3FFFFF) + move(0, 1, 0)
        self.assertEqual(answers(calls), [1, 0, 1, 0, 1, 0, 1, 1, 1, 0])

    def even(self):
        """512 conditions: the variables 15 to 24 have an even number of ones among them."""
        odd = [values for values in range(1024) if values.bit_count() % 2 == 1]
        conditions = [[-x if values >> (x - 15) & 1 else x for x in range(15, 25)] for values in odd]
        self.assertEqual(len(conditions), 512)
        return conditions

    def parity(self, blocks):
        return read(0, text_of(24, blocks, self.even()))

    def test_five_hundred_and_twelve_conditions(self):
        calls = self.parity([("a", range(15, 24)), ("e", [24])])
        self.assertEqual(answers(calls + true(0) + move(0, 23, 0x3FC000) + move(0, 23, 0x7FC000)),
                         [1, 0, 1, 1, 1, 0, 1, 1])
        calls = self.parity([("e", [24]), ("a", range(15, 24))])
        self.assertEqual(answers(calls + true(0) + holds(0, 24, 0x7FC000) + holds(0, 24, 0xFFC000)),
                         [1, 0, 1, 0, 1, 0, 1, 1])

    def check_every_call(self, blocks, truth, best, beginnings):
        row, kinds = in_order(24, blocks)
        calls = [self.parity(blocks)] + whole_calls(0) + [holds(0, 24, best), holds(0, 25, 0), move(0, 24, 0)]
        self.assertLessEqual(len(in_one(calls)), 30000)
        written = list(reference_text(24, blocks, self.even()).encode("ascii"))
        expected = [[0], [24] + row + kinds, [truth], [0, best], [0, beginnings], [-1 if truth else -55], [0] + written]
        self.assertTrue(ask(*calls) == expected + [[truth], [-2], [-2]])

    def test_every_call_of_the_largest(self):
        others = list(range(1, 15))
        self.check_every_call([], 1, 0, 2 ** 23)
        self.check_every_call([("e", others), ("a", range(15, 24)), ("e", [24])], 1, 0, 2 ** 14)
        self.check_every_call([("e", [24]), ("a", range(15, 24))], 0, 2 ** 23, 0)
        self.check_every_call([("a", range(24, 0, -1))], 0, 2 ** 23 >> 14, 2 ** 23)
        self.check_every_call([("a", others), ("e", range(15, 24)), ("a", [24])], 0, 2 ** 23, 2 ** 14)
        self.check_every_call([("a", [15]), ("e", range(16, 25)), ("a", others)], 1, 0, 0)

    def test_line_and_count_of_pairs(self):
        self.assertEqual(ask(self.pairs("a", "e"), line(0), count(0)), [[0], [0, 0], [0, 0]])
        self.assertEqual(ask(self.pairs("e", "a"), line(0), count(0)), [[0], [0, 2 ** 23], [0, 0]])

    def test_many_large_sentences(self):
        calls = read(0, "p cnf 24 2 a 24 0 e 1 0 24 1 0 -24 -1 0") + true(0) + move(0, 23, 0x400000)
        # Compared by hand: unittest's own picture of two long lists that differ takes it half a minute.
        self.assertTrue(answers(calls * 100) == [1, 0, 1, 1, 1, 0] * 100)
        block = [read(1, "p cnf 24 1 23 24 0")] + whole_calls(1)
        self.assertTrue(answers(in_one(block) * 20) == answers(in_one(block)) * 20)


if __name__ == "__main__":
    unittest.main()
