"""Marks: places within the rules of a grammar, many of them handled at once.

A mark of a rule stands ahead of its symbols, between two, or behind them all. The marks of a grammar are numbered
rule by rule, so the mark behind one symbol more is the next number. Marks together are one whole number, which has
bit number m if mark m is among them: so one step moves them all, and great grammars stay quick.
"""

from grammarpairs.grammar import NONTERMINAL


class Marks:
    """The marks of a grammar.

    `firsts` stand ahead of all symbols of a rule. For each nonterminal `ahead_of` has the marks that stand straight
    ahead of it, and `ends_of` those behind all symbols of its rules. `rule_ends` has the last mark of each rule.
    """

    def __init__(self, grammar):
        self.firsts = 0
        self.ahead_of = [0] * grammar.nonterminals
        self.ends_of = [0] * grammar.nonterminals
        self.rule_ends = []
        self.ahead_of_ranges = []
        mark = 1
        for owner, symbols in grammar.rules:
            self.firsts = self.firsts | mark
            for symbol in symbols:
                self.note_symbol(mark, symbol)
                mark = mark << 1
            self.ends_of[owner] = self.ends_of[owner] | mark
            self.rule_ends.append(mark)
            mark = mark << 1

    def note_symbol(self, mark, symbol):
        if symbol[0] == NONTERMINAL:
            self.ahead_of[symbol[1]] = self.ahead_of[symbol[1]] | mark
        else:
            self.ahead_of_ranges.append((mark, symbol[1], symbol[2]))

    def ahead_of_byte(self, byte):
        # Each mark stands ahead of one symbol at most, so their sum joins them.
        return sum([mark for mark, lo, hi in self.ahead_of_ranges if lo <= byte <= hi])

    def ahead_of_ended(self, marks):
        """Give the marks ahead of each nonterminal that has one of its ends among these."""
        return joined_where(marks, self.ends_of, self.ahead_of)

    def ends_of_next(self, marks):
        """Give the ends of each nonterminal that stands straight behind one of these."""
        return joined_where(marks, self.ahead_of, self.ends_of)


def joined_where(marks, asked, given):
    """Join those given whose partners among the asked share a mark with these."""
    joined = 0
    for one, other in zip(asked, given):
        if marks & one:
            joined = joined | other
    return joined
