import unittest

from telling import add, ask, changed, drop, grammar, held, load, many, ranges, rename, sized, swap, turn, undo


class Changed(unittest.TestCase):
    def assert_changed(self, left, right, of_left, of_right):
        loads = (load(0, left), load(1, right))
        told = [0, len(of_left)] + of_left + [len(of_right)] + of_right
        self.assertEqual(ask(*loads, changed())[-1], told)
        turned_round = [0, len(of_right)] + of_right + [len(of_left)] + of_left
        self.assertEqual(ask(*loads, swap(), changed())[-1], turned_round)

    def test_of_a_new_object(self):
        self.assertEqual(ask(changed()), [[0, 0, 0]])

    def test_none_and_all(self):
        row = grammar(2, "0: a 1", "1: b")
        self.assert_changed(row, row, [], [])
        self.assert_changed(row, [2, 0], [0, 1], [])
        self.assert_changed(row, grammar(1, "0: b", "0: a", "0:"), [0, 1], [0, 1, 2])

    def test_the_order_does_not_count(self):
        self.assert_changed(grammar(2, "0: a 1", "1: b", "0:"), grammar(2, "0:", "0: a 1", "1: b"), [], [])

    def test_some_of_each_in_order(self):
        left = grammar(2, "0: a", "0: b", "1: c", "0: d", "1:")
        right = grammar(2, "1:", "0: e", "0: b", "0: f", "0: d")
        self.assert_changed(left, right, [0, 2], [1, 3])

    def test_how_many_nonterminals_does_not_count(self):
        self.assert_changed(grammar(1, "0: a 0"), grammar(20, "0: a 0"), [], [])

    def test_the_nonterminal_counts(self):
        self.assert_changed(grammar(2, "0: a"), grammar(2, "1: a"), [0], [0])
        self.assert_changed(grammar(2, "0:"), grammar(2, "1:"), [0], [0])

    def test_each_symbol_counts(self):
        self.assert_changed(grammar(2, "0: 0"), grammar(2, "0: 1"), [0], [0])
        self.assert_changed(ranges((5, 6)), ranges((5, 7)), [0], [0])
        self.assert_changed(ranges((5, 6)), ranges((4, 6)), [0], [0])
        self.assert_changed(grammar(1, "0: a b"), grammar(1, "0: b a"), [0], [0])
        self.assert_changed(grammar(1, "0: a"), grammar(1, "0: a a"), [0], [0])
        self.assert_changed(grammar(1, "0:"), grammar(1, "0: 0"), [0], [0])
        self.assert_changed([1, 1, 0, 1, 0, 0], [1, 1, 0, 1, 1, 0, 0], [0], [0])

    def test_ranges_that_cover_the_same_together_are_not_the_same(self):
        self.assert_changed(ranges((5, 6), (7, 8)), ranges((5, 8)), [0, 1], [0])

    def test_rules_that_are_the_same(self):
        self.assert_changed(grammar(1, "0: a", "0: a", "0: b", "0: a"), grammar(1, "0: b", "0: b"), [0, 1, 3], [])
        self.assert_changed(grammar(1, "0: a", "0: a"), grammar(1, "0: a"), [], [])

    def test_sixty_of_each(self):
        left = ranges(*[(k, k) for k in range(60)])
        right = ranges(*[(k, k + 1) for k in range(60)])
        self.assert_changed(left, right, list(range(60)), list(range(60)))
        self.assert_changed(sized(20, 60), sized(1, 60), [], [])

    def test_behind_other_calls(self):
        row = grammar(2, "0: a 1", "1: b 0", "1:")
        told = ask(load(0, row), load(1, row), drop(1), changed(), add([0, 0]), changed(), undo(), undo(), changed())
        self.assertEqual([told[3], told[5], told[8]], [[0, 0, 1, 1], [0, 1, 2, 1, 1], [0, 0, 0]])
        told = ask(load(0, row), load(1, row), turn(), changed(), undo(), rename([0, 1]), changed(), many(), changed())
        expected = [[0, 2, 0, 1, 2, 0, 1], [0, 0, 0], [0, 5, 0, 1, 2, 3, 4, 3, 0, 1, 2]]
        self.assertEqual([told[3], told[6], told[8]], expected)

    def test_the_object_is_as_it_was(self):
        left, right = grammar(2, "0: a"), grammar(1, "0: b")
        told = ask(load(0, left), load(1, right), changed(), held(0), held(1), undo(), undo())
        self.assertEqual(told[3:], [[0] + left, [0] + right, [0, 1, 0], [-11]])


if __name__ == "__main__":
    unittest.main()
