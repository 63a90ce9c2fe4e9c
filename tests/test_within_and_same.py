"""within and same, and with them the signs and the texts that are gone through."""

import unittest

from grammarpairs.signs import are_too_many
from telling import FAR, ask, choice, cover, grammar, held, load, many, packed, ranges, same, sentence, shown, swap
from telling import undo, within

NOTHING = [1, 0]
A_THEN_B = grammar(1, "0: a 0", "0: b")
AAB = grammar(1, "0: a a b")
ANY_AB = grammar(1, "0:", "0: 0 a-b")


def compared(left, right, most):
    """Give what within answers, what it answers the other way round, and what same answers."""
    told = ask(load(0, left), load(1, right), within(most), same(most), swap(), within(most), same(most))
    if told[3] != told[6]:
        raise ValueError(f"same answers {told[3]} one way round and {told[6]} the other")
    return [told[2], told[5], told[3]]


class Example(unittest.TestCase):
    def test_the_documents_own(self):
        told = ask(load(0, A_THEN_B), load(1, AAB), within(4), swap(), within(4), same(4), swap(), cover(3), many(),
                   held(0), sentence(1, 2))
        made = grammar(2, "0:", "0: 0 1", "1: a 1", "1: b")
        expected = [
            [0, 1, 2], [0, 1, 1], [1, 1, 98], [0, 1, 1], [0], [1, 1, 98], [0, 1, 2],
            [0, 2, 1, 98, 1, 1, 2, 97, 98, 1, 0], [0, 2, 4], [0] + made, [1, 1, 98],
        ]
        self.assertEqual(told, expected)


class Compared(unittest.TestCase):
    def assert_compared(self, left, right, most, left_alone, right_alone, just_one):
        told = [[0] if text is None else shown(text) for text in (left_alone, right_alone, just_one)]
        self.assertEqual(compared(left, right, most), told)

    def test_of_a_new_object(self):
        for most in range(9):
            self.assertEqual(ask(within(most), same(most)), [[0], [0]])

    def test_the_text_without_bytes_comes_first(self):
        for most in range(7):
            self.assert_compared(grammar(1, "0:"), NOTHING, most, "", None, "")
            self.assert_compared(ANY_AB, A_THEN_B, most, "", None, "")
        self.assert_compared(grammar(1, "0:"), grammar(1, "0:", "0:"), 8, None, None, None)

    def test_one_within_the_other(self):
        self.assert_compared(AAB, A_THEN_B, 0, None, None, None)
        self.assert_compared(AAB, A_THEN_B, 1, None, "b", "b")
        self.assert_compared(A_THEN_B, ANY_AB, 6, None, "", "")

    def test_neither_within_the_other(self):
        left = grammar(1, "0: a", "0: b b")
        right = grammar(1, "0: a", "0: b a", "0: b b b")
        self.assert_compared(left, right, 1, None, None, None)
        self.assert_compared(left, right, 2, "bb", "ba", "ba")
        self.assert_compared(right, left, 7, "ba", "bb", "ba")

    def test_shorter_ones_first_then_by_the_first_byte_that_differs(self):
        left = grammar(1, "0: c", "0: a a", "0: b a", "0: a c", "0: a b")
        self.assert_compared(left, NOTHING, 3, "c", None, "c")
        without = grammar(1, "0: c")
        self.assert_compared(left, without, 3, "aa", None, "aa")
        self.assert_compared(left, grammar(1, "0: c", "0: a a"), 4, "ab", None, "ab")
        self.assert_compared(left, grammar(1, "0: a a-c", "0: c"), 4, "ba", None, "ba")

    def test_a_difference_just_within_and_just_beyond_the_length(self):
        for size in range(1, 9):
            word = grammar(1, "0: " + " ".join("a" * size))
            self.assert_compared(word, NOTHING, size, "a" * size, None, "a" * size)
            self.assert_compared(word, NOTHING, size - 1, None, None, None)

    def test_two_signs_up_to_seven(self):
        left = grammar(1, "0:", "0: a 0 a", "0: b 0 b", "0: a-b")
        right = grammar(1, "0:", "0: a 0 a", "0: b 0 b", "0: a", "0: b", "0: b a a a b b a")
        self.assert_compared(left, right, 6, None, None, None)
        self.assert_compared(left, right, 7, None, "baaabba", "baaabba")

    def test_cycles_and_what_covers_nothing(self):
        left = grammar(3, "0: 1", "1: 0", "1: a", "0: 2", "2: 2", "2: b 2")
        self.assert_compared(left, grammar(1, "0: a"), 7, None, None, None)
        self.assert_compared(left, grammar(1, "0: a", "0: b"), 7, None, "b", "b")
        self.assert_compared(left, grammar(1, "0: 0", "0: 0 0"), 7, "a", None, "a")

    def test_no_symbols_anywhere(self):
        self.assert_compared(grammar(2, "0: 1 1", "1:"), grammar(1, "0: 0"), 8, "", None, "")

    def test_behind_choice_the_old_one_lies_within(self):
        told = ask(load(0, A_THEN_B), load(1, ANY_AB), choice(), within(5), same(5), swap(), within(5))
        self.assertEqual(told[3:], [[0], [0], [0, 1, 2], [0]])


class Signs(unittest.TestCase):
    """A sign is shown as the first text, of one byte, that one grammar reads and the other doesn't."""

    def first_shown(self, left, right):
        return ask(load(0, left), load(1, right), within(1))[-1]

    def test_the_first_byte_of_a_range(self):
        self.assertEqual(self.first_shown(ranges((5, 9)), NOTHING), [1, 1, 5])
        self.assertEqual(self.first_shown(ranges((0, 0)), NOTHING), [1, 1, 0])
        self.assertEqual(self.first_shown(ranges((255, 255)), NOTHING), [1, 1, 255])
        self.assertEqual(self.first_shown(ranges((0, 255)), NOTHING), [1, 1, 0])

    def test_overlapping(self):
        self.assertEqual(self.first_shown(ranges((5, 9)), ranges((3, 7))), [1, 1, 8])
        self.assertEqual(self.first_shown(ranges((5, 9)), ranges((7, 12))), [1, 1, 5])
        self.assertEqual(self.first_shown(ranges((5, 9)), ranges((5, 6), (8, 9))), [1, 1, 7])

    def test_touching(self):
        self.assertEqual(self.first_shown(ranges((5, 9), (10, 12)), ranges((5, 9))), [1, 1, 10])
        self.assertEqual(self.first_shown(ranges((5, 12)), ranges((5, 9), (10, 12))), [0])

    def test_one_within_another(self):
        self.assertEqual(self.first_shown(ranges((5, 20)), ranges((5, 8), (9, 19))), [1, 1, 20])
        self.assertEqual(self.first_shown(ranges((5, 20), (9, 11)), ranges((5, 8))), [1, 1, 9])
        self.assertEqual(self.first_shown(ranges((5, 20), (9, 11)), ranges((5, 11))), [1, 1, 12])

    def test_ends_at_255(self):
        self.assertEqual(self.first_shown(ranges((200, 255)), ranges((200, 254))), [1, 1, 255])
        self.assertEqual(self.first_shown(ranges((0, 255)), ranges((0, 199), (201, 255))), [1, 1, 200])
        self.assertEqual(self.first_shown(ranges((250, 255)), ranges((0, 255))), [0])

    def test_a_gap_is_no_class(self):
        self.assertEqual(self.first_shown(ranges((5, 6), (9, 9)), ranges((5, 6))), [1, 1, 9])
        self.assertEqual(self.first_shown(ranges((5, 6), (9, 9)), ranges((5, 6), (9, 9))), [0])

    def test_a_byte_that_is_no_sign_is_not_shown(self):
        left = [1, 1, 0, 2, 1, 4, 9, 1, 6, 9]
        self.assertEqual(ask(load(0, left), load(1, NOTHING), within(2))[-1], [1, 2, 4, 6])
        self.assertEqual(ask(load(0, ranges((4, 9))), load(1, NOTHING), within(2))[-1], [1, 1, 4])

    def test_rules_that_are_never_used_have_signs_too(self):
        left = [2, 2, 0, 1, 1, 4, 9, 1, 1, 1, 6, 6]
        right = [1, 1, 0, 1, 1, 4, 5]
        self.assertEqual(self.first_shown(left, right), [1, 1, 6])
        # Texts of two bytes may have 16 signs. Here are 15, and two more once 7 parts the first range.
        fifteen = ranges((6, 8), *[(k, k) for k in range(20, 34)])
        self.assertEqual(ask(load(0, fifteen), within(2))[1], [1, 1, 6])
        seventeen = [2, 16] + fifteen[2:] + [1, 1, 1, 7, 7]
        self.assertEqual(ask(load(0, seventeen), within(2), cover(2))[1:], [[-10], [-10]])


class Refusals(unittest.TestCase):
    # How many signs there may be for texts of at most so many bytes: with one sign more the texts are too many.
    MOST_SIGNS = {2: 16, 3: 6, 4: 3, 5: 2, 6: 2, 7: 2, 8: 1}

    def test_most(self):
        for most in (-1, 9, 10, FAR, -FAR):
            self.assertEqual(ask(within(most), same(most)), [[-7], [-7]])
            self.assertEqual(ask(load(0, A_THEN_B), load(1, AAB), within(most), same(most))[2:], [[-7], [-7]])

    def test_most_is_told_before_too_many_texts(self):
        many_signs = load(0, ranges(*[(k, k) for k in range(60)]))
        for most in (-1, 9, FAR, -FAR):
            self.assertEqual(ask(many_signs, within(most), same(most))[1:], [[-7], [-7]])

    def singles(self, size):
        return ranges(*[(3 * k, 3 * k) for k in range(size)])

    def test_too_many_texts(self):
        for most, size in self.MOST_SIGNS.items():
            told = ask(load(0, self.singles(size)), within(most), same(most))
            self.assertEqual(told[1:], [[1, 1, 0], [1, 1, 0]], most)
            told = ask(load(0, self.singles(size + 1)), within(most), same(most))
            self.assertEqual(told[1:], [[-10], [-10]], most)

    def test_the_joint_signs_count(self):
        for most, size in self.MOST_SIGNS.items():
            halves = [(3 * k, 3 * k) for k in range(size + 1)]
            one, other = ranges(*halves[:1]), ranges(*halves[1:])
            for left, right in ((one, other), (other, one), (NOTHING, ranges(*halves)), (ranges(*halves), NOTHING)):
                told = ask(load(0, left), load(1, right), within(most), same(most))
                self.assertEqual(told[2:], [[-10], [-10]], most)
            common = ranges(*halves[:size])
            self.assertEqual(ask(load(0, common), load(1, common), within(most), same(most))[2:], [[0], [0]])

    def test_cuts_of_both_part_one_range(self):
        # Alone each of these has one sign; together they have two, or three.
        told = ask(load(0, ranges((0, 9))), load(1, ranges((5, 9))), within(7), same(7), within(8))
        self.assertEqual(told[2:], [[1, 1, 0], [1, 1, 0], [-10]])
        told = ask(load(0, ranges((0, 9))), load(1, ranges((5, 6))), within(4), same(4), within(5))
        self.assertEqual(told[2:], [[1, 1, 0], [1, 1, 0], [-10]])

    def test_a_gap_between_ranges_does_not_count(self):
        self.assertEqual(ask(load(0, ranges((5, 5), (9, 9))), within(7))[1], [1, 1, 5])
        self.assertEqual(ask(load(0, ranges((5, 5), (6, 9))), within(7))[1], [1, 1, 5])
        self.assertEqual(ask(load(0, ranges((5, 7), (6, 9))), within(7))[1], [-10])
        self.assertEqual(ask(load(0, ranges((5, 7), (6, 9))), within(4))[1], [1, 1, 5])
        self.assertEqual(ask(load(0, ranges((200, 255), (210, 255))), within(7), within(8))[1:], [[1, 1, 200], [-10]])

    def test_all_256_signs(self):
        row = packed(*[(k, k) for k in range(256)])
        told = ask(load(0, row), load(1, row), within(0), within(1), same(1), within(2), same(2))
        self.assertEqual(told[2:], [[0], [0], [0], [-10], [-10]])
        every = ranges((0, 255))
        told = ask(load(0, every), load(1, row), within(1), same(1), swap(), within(1))
        self.assertEqual(told[2:], [[1, 1, 0], [1, 1, 0], [0, 1, 32], [0]])

    def test_three_hundred_texts_and_one_more(self):
        # No grammar has as many as 299 signs, so this bound itself can be asked here alone.
        self.assertFalse(are_too_many(list(range(299)), 1))
        self.assertTrue(are_too_many(list(range(300)), 1))
        self.assertFalse(are_too_many([], 8))

    def test_the_object_is_as_it_was(self):
        left, right = ranges((1, 1), (3, 3), (5, 5)), AAB
        for call in (within(1), same(1), within(-1), same(9), within(8), same(8)):
            told = ask(load(0, left), load(1, right), call, held(0), held(1), undo(), undo())
            self.assertEqual(told[3:], [[0] + left, [0] + right, [0, 1, 0], [-11]])


if __name__ == "__main__":
    unittest.main()
