import unittest

from telling import FAR, ask, grammar, held, load, ranges, reads, undo


class ReadsCase(unittest.TestCase):
    def assert_reads(self, row, texts):
        for text in texts:
            self.assertEqual(ask(load(0, row), reads(0, text))[1], [0, 1], text)

    def assert_reads_not(self, row, texts):
        for text in texts:
            self.assertEqual(ask(load(0, row), reads(0, text))[1], [0, 0], text)


class Texts(ReadsCase):
    def test_the_documents_grammars(self):
        left = grammar(1, "0: a 0", "0: b")
        self.assert_reads(left, ("b", "ab", "aab", "a" * 23 + "b"))
        self.assert_reads_not(left, ("", "a", "ba", "abb", "bb", "aa", "c", "a" * 24, "b" * 24))
        right = grammar(1, "0: a a b")
        self.assert_reads(right, ("aab",))
        self.assert_reads_not(right, ("", "b", "ab", "aaab", "aaba", "aa"))

    def test_left_and_right(self):
        loads = (load(0, grammar(1, "0: a")), load(1, grammar(1, "0: b")))
        told = ask(*loads, reads(0, "a"), reads(1, "a"), reads(0, "b"), reads(1, "b"))
        self.assertEqual(told[2:], [[0, 1], [0, 0], [0, 0], [0, 1]])

    def test_a_new_object_reads_nothing(self):
        self.assertEqual(ask(reads(0, ""), reads(1, ""), reads(0, "a"), reads(1, [0])), [[0, 0]] * 4)

    def test_the_start_covers_all_of_it(self):
        self.assert_reads_not(grammar(2, "1: a", "1:"), ("", "a"))
        self.assert_reads(grammar(2, "1: a", "1:", "0: 1"), ("", "a"))

    def test_brackets(self):
        row = grammar(1, "0:", "0: ( 0 ) 0")
        self.assert_reads(row, ("", "()", "(())()", "(" * 12 + ")" * 12, "()" * 12, "((()())(()))(((()))(()))"))
        self.assert_reads_not(row, (")(", "(", ")", "(()", "())", "(" * 13 + ")" * 11, "()" * 11 + "(("))

    def test_palindromes(self):
        row = grammar(1, "0: a 0 a", "0: b 0 b", "0:", "0: a-b")
        self.assert_reads(row, ("", "a", "abba", "ababa", "abbbabbaabbabbba", "a" * 24, "ab" * 6 + "ba" * 6))
        self.assert_reads_not(row, ("ab", "abab", "ab" * 12, "a" * 23 + "b"))

    def test_as_many_of_each(self):
        row = grammar(3, "0: 1 2", "1: a 1 b", "1:", "2: c 2", "2:")
        self.assert_reads(row, ("", "ab", "aabb", "c", "abccc", "a" * 12 + "b" * 12, "c" * 24))
        self.assert_reads_not(row, ("aab", "abb", "ca", "cab", "abcab", "a" * 13 + "b" * 11))

    def test_many_ways_to_read_one(self):
        row = grammar(1, "0: 0 0", "0: 0 0 0", "0: a")
        self.assert_reads(row, ("a", "aa", "a" * 24))
        self.assert_reads_not(row, ("", "a" * 23 + "b"))
        eight = grammar(2, "0: 1 1 1 1 1 1 1 1", "1: a 1", "1: 1 a", "1:")
        self.assert_reads(eight, ("", "a", "a" * 24))

    def test_eight_symbols(self):
        row = grammar(1, "0: a b c d e f g h")
        self.assert_reads(row, ("abcdefgh",))
        self.assert_reads_not(row, ("abcdefg", "bcdefgh", "abcdefghh", "abcdefgg", "abcdefg" + "gh"))
        self.assert_reads(grammar(2, "0: 1 1 1 1 1 1 1 1", "1: a b c"), ("abc" * 8,))
        self.assert_reads_not(grammar(2, "0: 1 1 1 1 1 1 1 1", "1: a b c"), ("abc" * 7,))


class Ranges(ReadsCase):
    def test_from_lo_to_hi(self):
        row = ranges((10, 20), (30, 30), (255, 255))
        self.assert_reads(row, ([10], [15], [20], [30], [255]))
        self.assert_reads_not(row, ([], [9], [21], [29], [31], [0], [254], [10, 10]))

    def test_all_bytes(self):
        row = ranges((0, 255))
        self.assert_reads(row, [[byte] for byte in range(256)])
        self.assert_reads_not(row, ([], [0, 255]))

    def test_overlapping_and_touching(self):
        row = [1, 2, 0, 2, 1, 5, 9, 1, 7, 12, 0, 2, 1, 13, 20, 1, 7, 9]
        self.assert_reads(row, ([5, 7], [9, 12], [7, 9], [13, 7], [20, 9]))
        self.assert_reads_not(row, ([5, 6], [10, 7], [12, 12], [12, 8], [13, 10], [5, 13]))


class NoBytesAndCycles(ReadsCase):
    def test_rules_without_symbols(self):
        self.assert_reads(grammar(1, "0:"), ("",))
        self.assert_reads_not(grammar(1, "0:"), ("a",))
        row = grammar(3, "0: 1 2 1", "1:", "2:", "2: a", "1: b")
        self.assert_reads(row, ("", "a", "b", "ab", "ba", "bb", "bab"))
        self.assert_reads_not(row, ("aa", "bbb", "bbab", "aba"))

    def test_a_nonterminal_that_leads_to_itself_alone_covers_nothing(self):
        self.assert_reads_not(grammar(1, "0: 0"), ("", "a"))
        self.assert_reads_not(grammar(3, "0: 1", "1: 2", "2: 0"), ("", "a"))
        self.assert_reads_not(grammar(1, "0: 0 0"), ("", "a"))
        self.assert_reads_not(grammar(1, "0: a 0"), ("", "a", "a" * 24))
        self.assert_reads_not(grammar(2, "0: 1 0", "1:"), ("",))

    def test_a_cycle_with_a_way_out(self):
        row = grammar(3, "0: 1", "1: 2", "2: 0", "2: a 0", "1: b")
        self.assert_reads(row, ("b", "ab", "aaab"))
        self.assert_reads_not(row, ("", "a", "bb"))

    def test_a_cycle_through_what_covers_no_bytes(self):
        row = grammar(2, "0: 1 0 1", "0: c", "1:", "1: 0 1")
        self.assert_reads(row, ("c", "cc", "c" * 24))
        self.assert_reads_not(row, ("", "d", "c" * 23 + "d"))

    def test_a_nonterminal_that_covers_nothing_spoils_its_rules_alone(self):
        row = grammar(3, "0: a 1", "0: a 2", "1: 1", "2: b")
        self.assert_reads(row, ("ab",))
        self.assert_reads_not(row, ("a", "aa"))

    def test_a_chain_of_all_twenty_told_from_either_end(self):
        steps = [f"{k}: {k + 1}" for k in range(19)]
        for rules in (steps + ["19: a", "19:"], ["19:", "19: a"] + steps[::-1]):
            self.assert_reads(grammar(20, *rules), ("", "a"))
            self.assert_reads_not(grammar(20, *rules), ("aa", "b"))

    def test_rules_that_are_the_same(self):
        row = grammar(1, "0: a 0", "0: a 0", "0:", "0:")
        self.assert_reads(row, ("", "a", "aa"))
        self.assert_reads_not(row, ("b",))


class Bounds(unittest.TestCase):
    EVERY = grammar(1, "0:", "0: 0 a")

    def test_twenty_four_bytes(self):
        told = ask(load(0, self.EVERY), reads(0, "a" * 24), reads(0, "a" * 25), reads(0, "a" * 2000))
        self.assertEqual(told[1:], [[0, 1], [-3], [-3]])

    def test_bytes(self):
        for wrong in (-1, 256, FAR, -FAR):
            for text in ([wrong], [97, wrong], [wrong] + [97] * 23, [97] * 1999 + [wrong]):
                self.assertEqual(ask(load(0, self.EVERY), reads(0, text))[1], [-1], text)

    def test_sides(self):
        for k in (-1, 2, FAR, -FAR):
            self.assertEqual(ask(reads(k, "")), [[-5]])
            self.assertEqual(ask(reads(k, "a" * 24)), [[-5]])

    def test_the_refusal_told_first(self):
        self.assertEqual(ask(reads(2, [256] * 25)), [[-1]])
        self.assertEqual(ask(reads(0, [97] * 24 + [-1])), [[-1]])
        self.assertEqual(ask(reads(2, [97] * 23 + [256])), [[-1]])
        self.assertEqual(ask(reads(2, [97] * 25)), [[-3]])

    def test_the_object_is_as_it_was(self):
        loads = (load(0, self.EVERY), load(1, ranges((1, 2))))
        for call in (reads(0, "aa"), reads(1, [1]), reads(0, [256]), reads(0, "a" * 25), reads(2, "")):
            told = ask(*loads, call, held(0), held(1), undo(), undo())
            self.assertEqual(told[3:], [[0] + self.EVERY, [0] + ranges((1, 2)), [0, 1, 0], [-11]])


class GreatGrammars(ReadsCase):
    def test_the_greatest(self):
        rules = [f"{k % 20}: {(k + 1) % 20} a-z {(k + 7) % 20} 1 2 3 4 5" for k in range(40)]
        row = grammar(20, *rules, *[f"{k}:" for k in range(20)])
        self.assert_reads(row, ("", "a", "q" * 24, "abcdefghijklmnopqrstuvwx"))
        self.assert_reads_not(row, ("q" * 23 + "A",))


if __name__ == "__main__":
    unittest.main()
