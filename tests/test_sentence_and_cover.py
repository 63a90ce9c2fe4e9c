import unittest

from telling import FAR, add, ask, cover, covered, drop, grammar, held, joined, load, many, packed, ranges, sentence
from telling import shown, sized, turn, undo

A_THEN_B = grammar(1, "0: a 0", "0: b")


class UsesCase(unittest.TestCase):
    def assert_uses(self, row, most, *uses):
        """cover answers these texts with their rules; sentence answers each rule's text, or 0 for one without."""
        self.assertEqual(ask(load(0, row), cover(most))[1], covered(*uses))
        first = {number: shown(text) for text, rules in uses for number in rules}
        for number in range(row[1]):
            told = ask(load(0, row), sentence(number, most))[1]
            self.assertEqual(told, first.get(number, [0]), (row, number))


class Uses(UsesCase):
    def test_the_documents_example(self):
        self.assert_uses(A_THEN_B, 3, ("b", [1]), ("ab", [0]))
        told = ask(load(0, A_THEN_B), cover(3), many(), sentence(1, 2))
        self.assertEqual(told[1:], [[0, 2, 1, 98, 1, 1, 2, 97, 98, 1, 0], [0, 2, 4], [1, 1, 98]])

    def test_many_of_it(self):
        self.assert_uses(grammar(2, "0:", "0: 0 1", "1: a 1", "1: b"), 3, ("", [0]), ("b", [1, 3]), ("ab", [2]))

    def test_of_no_rules(self):
        for most in range(9):
            self.assert_uses([1, 0], most)
            self.assert_uses([20, 0], most)

    def test_the_length_is_a_bound(self):
        self.assert_uses(A_THEN_B, 0)
        self.assert_uses(A_THEN_B, 1, ("b", [1]))
        self.assert_uses(A_THEN_B, 2, ("b", [1]), ("ab", [0]))
        for size in range(9):
            word = grammar(1, "0: " + " ".join("a" * size))
            self.assert_uses(word, size, ("a" * size, [0]))
            if size > 0:
                self.assert_uses(word, size - 1)

    def test_rules_ascend_and_texts_stand_in_order(self):
        row = grammar(3, "2: a", "0: 1 2", "1: b", "0: 2", "1: a", "0: c")
        self.assert_uses(row, 2, ("a", [0, 3]), ("c", [5]), ("aa", [1, 4]), ("ba", [2]))

    def test_rules_out_of_reach(self):
        self.assert_uses(grammar(2, "0: a", "1: b", "1: a"), 3, ("a", [0]))

    def test_a_rule_with_what_covers_nothing(self):
        row = grammar(3, "0: a 1", "0: a 2", "1: 1", "2: b", "1: b 1")
        self.assert_uses(row, 4, ("ab", [1, 3]))

    def test_a_rule_whose_pieces_only_cover_apart(self):
        # 1 covers b and 2 covers c, but in no text of the start both stand where rule 1 asks for them.
        self.assert_uses(grammar(3, "0: 1", "1: b", "2: c", "2: 1 2"), 4, ("b", [0, 1]))

    def test_a_rule_that_covers_a_piece_of_the_text_but_stands_in_no_tree(self):
        # In ab nonterminal 1 covers a, but the only tree has rule 0 over both bytes.
        row = grammar(2, "0: a b", "1: a", "0: 1 c")
        self.assert_uses(row, 2, ("ab", [0]), ("ac", [1, 2]))
        # In aab, 1 covers a and aa; the tree has it over aa alone, so rule 1 is used first by ab.
        row = grammar(2, "0: 1 b", "1: a", "1: a a")
        self.assert_uses(row, 2, ("ab", [0, 1]))
        self.assert_uses(row, 3, ("ab", [0, 1]), ("aab", [2]))

    def test_the_first_symbols_of_a_rule_are_not_enough(self):
        row = grammar(2, "0: 1 a b", "0: a a", "1: a")
        self.assert_uses(row, 3, ("aa", [1]), ("aab", [0, 2]))
        row = grammar(2, "0: 1 1 b", "1: a", "1:", "0: a a")
        self.assert_uses(row, 3, ("b", [0, 2]), ("aa", [3]), ("ab", [1]))

    def test_a_text_that_is_read_in_several_ways_uses_the_rules_of_all(self):
        self.assert_uses(grammar(2, "0: a", "0: 1", "1: a"), 3, ("a", [0, 1, 2]))
        row = grammar(3, "0: 1 2", "1: a", "1: a a", "2: b", "2: a b")
        self.assert_uses(row, 3, ("ab", [0, 1, 3]), ("aab", [2, 4]))

    def test_rules_that_are_the_same(self):
        self.assert_uses(grammar(1, "0: a", "0: b", "0: a"), 1, ("a", [0, 2]), ("b", [1]))
        self.assert_uses(grammar(1, "0: a 0", "0:", "0: a 0", "0:"), 2, ("", [1, 3]), ("a", [0, 2]))

    def test_the_text_without_bytes(self):
        self.assert_uses(grammar(1, "0:"), 8, ("", [0]))
        self.assert_uses(grammar(3, "0: 1 2", "1:", "2: 1 1"), 0, ("", [0, 1, 2]))
        self.assert_uses(grammar(2, "0: 1 a", "1:", "1: 1 1"), 1, ("a", [0, 1, 2]))

    def test_cycles(self):
        self.assert_uses(grammar(1, "0: 0", "0: a"), 2, ("a", [0, 1]))
        self.assert_uses(grammar(1, "0: 0"), 8)
        self.assert_uses(grammar(1, "0: 0 0", "0:"), 1, ("", [0, 1]))
        row = grammar(3, "0: 1", "1: 2", "2: 0", "2: b", "0: 0 0")
        self.assert_uses(row, 1, ("b", [0, 1, 2, 3]))
        self.assert_uses(row, 2, ("b", [0, 1, 2, 3]), ("bb", [4]))

    def test_a_cycle_that_leads_on_to_others(self):
        row = grammar(4, "0: 1", "1: 0", "0: 2", "2: a", "1: 3 2 3", "3:", "3: 3 3", "3: c")
        self.assert_uses(row, 2, ("a", [0, 1, 2, 3, 4, 5, 6]), ("ac", [7]))

    def test_a_chain_of_all_twenty_told_from_either_end(self):
        steps = [f"{k}: {k + 1}" for k in range(19)]
        self.assert_uses(grammar(20, *steps, "19: a"), 8, ("a", list(range(20))))
        self.assert_uses(grammar(20, "19: a", *steps[::-1]), 8, ("a", list(range(20))))

    def test_eight_symbols_that_may_be_empty(self):
        row = grammar(2, "0: 1 1 1 1 1 1 1 1", "1:", "1: a", "1: b b b b b b b")
        self.assert_uses(row, 7, ("", [0, 1]), ("a", [2]), ("bbbbbbb", [3]))

    def test_sixty_rules(self):
        bytes_apart = ranges(*[(4 * k, 4 * k) for k in range(60)])
        self.assert_uses(bytes_apart, 1, *[([4 * k], [k]) for k in range(60)])
        self.assert_uses(sized(20, 60), 8, ("", list(range(60))))
        one_behind_another = [20, 60] + joined([[k // 3, 1, 0, k // 3 + 1] for k in range(57)]) + [19, 1, 1, 7, 9] * 3
        self.assert_uses(one_behind_another, 8, ([7], list(range(60))))

    def test_texts_of_seven_bytes_with_two_signs(self):
        row = grammar(2, "0: a 0 b", "0: 1", "1: b 1 a", "1:", "0: b b a b a a b")
        self.assert_uses(row, 7, ("", [1, 3]), ("ab", [0]), ("ba", [2]), ("bbabaab", [4]))

    def test_three_in_four_and_six_in_three(self):
        row = grammar(1, "0: a b c", "0: c c c c", "0: c b")
        self.assert_uses(row, 4, ("cb", [2]), ("abc", [0]), ("cccc", [1]))
        row = grammar(1, "0: a b c d-f", "0: f e d", "0: a-c f")
        self.assert_uses(row, 3, ("af", [2]), ("fed", [1]))


class Signs(UsesCase):
    def test_ranges(self):
        self.assert_uses(ranges((5, 9)), 2, ([5], [0]))
        self.assert_uses(ranges((5, 9), (7, 12)), 2, ([5], [0]), ([7], [1]))
        self.assert_uses(ranges((7, 12), (5, 9)), 2, ([5], [1]), ([7], [0]))
        self.assert_uses(ranges((5, 9), (10, 12)), 2, ([5], [0]), ([10], [1]))
        self.assert_uses(ranges((0, 255), (255, 255)), 2, ([0], [0]), ([255], [1]))

    def test_the_rights_signs_do_not_count(self):
        great = load(1, packed(*[(k, k) for k in range(256)]))
        told = ask(load(0, A_THEN_B), great, cover(7), sentence(0, 7))
        self.assertEqual(told[2:], [covered(("b", [1]), ("ab", [0])), shown("ab")])

    def test_sixty_ranges_that_all_end_at_255(self):
        self.assert_uses(ranges(*[(4 * k, 255) for k in range(60)]), 1, *[([4 * k], [k]) for k in range(60)])

    def test_all_256(self):
        every = packed(*[(k, k) for k in range(256)])
        self.assert_uses(every, 1)
        alone = [1, every[1] + 1] + every[2:] + [0, 1, 1, 255, 255]
        self.assert_uses(alone, 1, ([255], [32]))


class Refusals(unittest.TestCase):
    MOST_SIGNS = {2: 16, 3: 6, 4: 3, 5: 2, 6: 2, 7: 2, 8: 1}
    WRONG_LENGTHS = (-1, 9, 10, FAR, -FAR)
    WRONG_RULES = (-1, 2, 3, 60, FAR, -FAR)

    def test_most(self):
        for most in self.WRONG_LENGTHS:
            self.assertEqual(ask(cover(most)), [[-7]])
            self.assertEqual(ask(load(0, A_THEN_B), cover(most), sentence(0, most), sentence(1, most))[1:], [[-7]] * 3)

    def test_every_length_there_is(self):
        one_sign = grammar(1, "0: a 0", "0:")
        for most in range(9):
            answered = covered(("", [1]), ("a", [0])) if most > 0 else covered(("", [1]))
            self.assertEqual(ask(load(0, one_sign), cover(most), sentence(1, most))[1:], [answered, shown("")])

    def test_no_such_rule(self):
        for r in self.WRONG_RULES:
            self.assertEqual(ask(load(0, A_THEN_B), sentence(r, 2))[1], [-8])
        self.assertEqual(ask(sentence(0, 2)), [[-8]])
        self.assertEqual(ask(load(1, A_THEN_B), sentence(0, 2))[1], [-8])

    def test_no_such_rule_is_told_before_all_else(self):
        great = load(0, [1, 2] + packed(*[(k, k) for k in range(16)])[2:])
        for r in self.WRONG_RULES:
            for most in self.WRONG_LENGTHS + (8,):
                self.assertEqual(ask(great, sentence(r, most))[1], [-8])

    def test_most_is_told_before_too_many_texts(self):
        great = load(0, ranges(*[(k, k) for k in range(60)]))
        for most in self.WRONG_LENGTHS:
            self.assertEqual(ask(great, cover(most), sentence(59, most))[1:], [[-7], [-7]])

    def test_too_many_texts(self):
        for most, size in self.MOST_SIGNS.items():
            few = load(0, ranges(*[(3 * k, 3 * k) for k in range(size)]))
            told = ask(few, cover(most), sentence(size - 1, most))
            self.assertEqual(told[1:], [covered(*[([3 * k], [k]) for k in range(size)]), shown([3 * size - 3])])
            more = load(0, ranges(*[(3 * k, 3 * k) for k in range(size + 1)]))
            self.assertEqual(ask(more, cover(most), sentence(0, most))[1:], [[-10], [-10]])

    def test_the_object_is_as_it_was(self):
        left, right = ranges((1, 1), (3, 3), (5, 5)), A_THEN_B
        calls = (cover(2), sentence(1, 2), cover(-1), sentence(0, 9), cover(8), sentence(0, 8), sentence(3, 1))
        for call in calls:
            told = ask(load(0, left), load(1, right), call, held(0), held(1), undo(), undo())
            self.assertEqual(told[3:], [[0] + left, [0] + right, [0, 1, 0], [-11]])


class BehindOtherCalls(unittest.TestCase):
    def test_each_time_as_the_left_one_is_then(self):
        told = ask(load(0, A_THEN_B), cover(2), add([0, 0]), cover(2), drop(1), cover(2), turn(), cover(2), undo(),
                   undo(), undo(), cover(2))
        asked = [told[1], told[3], told[5], told[7], told[11]]
        expected = [
            covered(("b", [1]), ("ab", [0])), covered(("", [2]), ("a", [0]), ("b", [1])),
            covered(("", [1]), ("a", [0])), covered(("", [1]), ("a", [0])), covered(("b", [1]), ("ab", [0])),
        ]
        self.assertEqual(asked, expected)


if __name__ == "__main__":
    unittest.main()
