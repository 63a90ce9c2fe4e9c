import unittest

from telling import FAR, ask, drop, grammar, held, load, many, sized, turn

SMALL = grammar(1, "0: a 0", "0: b")
OTHER = grammar(2, "0: 1 x-z 1", "1:", "1: q")


class NewObject(unittest.TestCase):
    def test_both_grammars_have_one_nonterminal_and_no_rules(self):
        self.assertEqual(ask(held(0), held(1)), [[0, 1, 0], [0, 1, 0]])

    def test_each_list_begins_anew(self):
        ask(load(0, SMALL), load(1, OTHER))
        self.assertEqual(ask(held(0), held(1)), [[0, 1, 0], [0, 1, 0]])


class Load(unittest.TestCase):
    def assert_taken(self, row):
        for k in (0, 1):
            size = [0, row[0], row[1]]
            self.assertEqual(ask(load(k, row), held(k)), [size, [0] + row])

    def assert_no_row(self, row):
        for k in (0, 1):
            self.assertEqual(ask(load(k, row), held(k)), [[-2], [0, 1, 0]], row)

    def test_the_documents_row(self):
        self.assertEqual(SMALL, [1, 2, 0, 2, 1, 97, 97, 0, 0, 0, 1, 1, 98, 98])
        self.assert_taken(SMALL)
        self.assert_taken(OTHER)

    def test_left_and_right_are_apart(self):
        told = ask(load(0, SMALL), load(1, OTHER), held(0), held(1))
        self.assertEqual(told, [[0, 1, 2], [0, 2, 3], [0] + SMALL, [0] + OTHER])

    def test_a_later_load_takes_the_place(self):
        told = ask(load(0, SMALL), load(1, SMALL), load(1, OTHER), load(0, OTHER), held(0), held(1))
        self.assertEqual(told[-2:], [[0] + OTHER, [0] + OTHER])

    def test_counts_of_nonterminals(self):
        self.assert_taken([1, 0])
        self.assert_taken([20, 0])
        self.assert_no_row([0, 0])
        self.assert_no_row([21, 0])
        self.assert_no_row([FAR, 0])

    def test_counts_of_rules(self):
        self.assert_taken(sized(1, 60))
        self.assert_taken(sized(20, 60))
        self.assert_no_row(sized(1, 61))
        self.assert_no_row([1, FAR])

    def test_counts_of_symbols(self):
        self.assert_taken([1, 1, 0, 0])
        self.assert_taken([1, 1, 0, 8] + [0, 0] * 8)
        self.assert_taken([1, 1, 0, 8] + [1, 0, 255] * 8)
        self.assert_no_row([1, 1, 0, 9] + [0, 0] * 9)
        self.assert_no_row([1, 1, 0, FAR])

    def test_the_longest_row(self):
        self.assert_taken([20, 60] + ([19, 8] + [1, 5, 250] * 8) * 60)

    def test_ranges(self):
        self.assert_taken([1, 3, 0, 1, 1, 0, 0, 0, 1, 1, 255, 255, 0, 1, 1, 0, 255])
        self.assert_no_row([1, 1, 0, 1, 1, 7, 6])
        self.assert_no_row([1, 1, 0, 1, 1, 0, 256])
        self.assert_no_row([1, 1, 0, 1, 1, 256, 256])
        self.assert_no_row([1, 1, 0, 1, 1, 0, FAR])

    def test_kinds_of_symbols(self):
        self.assert_no_row([1, 1, 0, 1, 2, 0])
        self.assert_no_row([1, 1, 0, 1, 2, 0, 0])
        self.assert_no_row([1, 1, 0, 1, FAR, 0, 0])

    def test_nonterminals_that_are_there_and_not(self):
        self.assert_taken([3, 1, 2, 1, 0, 2])
        self.assert_no_row([3, 1, 3, 1, 0, 2])
        self.assert_no_row([3, 1, 2, 1, 0, 3])
        self.assert_no_row([3, 1, FAR, 1, 0, 2])
        self.assert_no_row([3, 1, 2, 1, 0, FAR])

    def test_two_rules_that_are_the_same(self):
        self.assert_taken(grammar(2, "1: a 0", "1: a 0", "0:", "0:"))

    def test_empty_row(self):
        self.assert_no_row([])

    def test_rows_cut_short_anywhere_or_too_long(self):
        for row in (SMALL, OTHER, [1, 0], [20, 0]):
            for size in range(len(row)):
                self.assert_no_row(row[:size])
            for more in (0, 1, FAR):
                self.assert_no_row(row + [more])
        self.assert_no_row([1, 0] + [0] * 1998)

    def test_numbers_below_zero_anywhere(self):
        for place in range(len(SMALL)):
            for number in (-1, -2, -FAR):
                row = SMALL[:place] + [number] + SMALL[place + 1:]
                self.assertEqual(ask(load(0, row), load(1, row)), [[-1], [-1]])
        self.assertEqual(ask(load(0, SMALL + [-1])), [[-1]])

    def test_wrong_sides(self):
        for k in (-1, 2, FAR, -FAR):
            told = ask(load(k, SMALL), held(0), held(1))
            self.assertEqual(told, [[-5], [0, 1, 0], [0, 1, 0]])

    def test_the_refusal_told_first(self):
        self.assertEqual(ask(load(0, [-1])), [[-1]])
        self.assertEqual(ask(load(2, [-1])), [[-1]])
        self.assertEqual(ask(load(2, [FAR, -FAR])), [[-1]])
        self.assertEqual(ask(load(2, SMALL[:-1] + [-1])), [[-1]])
        self.assertEqual(ask(load(2, [])), [[-2]])
        self.assertEqual(ask(load(-FAR, [21, 0])), [[-2]])


class Held(unittest.TestCase):
    def test_wrong_sides(self):
        for k in (-1, 2, FAR, -FAR):
            self.assertEqual(ask(held(k)), [[-5]])

    def test_it_changes_nothing(self):
        told = ask(load(0, SMALL), held(0), held(0), held(9), held(0))
        self.assertEqual(told[1:], [[0] + SMALL, [0] + SMALL, [-5], [0] + SMALL])

    def test_the_right_one_stays_when_the_left_is_made_anew(self):
        told = ask(load(1, OTHER), load(0, SMALL), many(), turn(), drop(0), held(1))
        self.assertEqual(told[-1], [0] + OTHER)


if __name__ == "__main__":
    unittest.main()
