"""Grammar rows: read with every number checked, and written."""

from grammarpairs.grammar import Grammar, HIGHEST_BYTE, MOST_NONTERMINALS, MOST_RULES, MOST_SYMBOLS
from grammarpairs.grammar import NONTERMINAL, RANGE


class RowReader:
    """Takes a row's numbers one by one and remembers whether all were as they must be."""

    def __init__(self, row):
        self.row = row
        self.place = 0
        self.sound = True

    def take(self, least, most):
        """Give the next number, or `least` once the row has shown itself unsound.

        So a reader may be asked on without a check behind each number: what it
        gives always lies within the bounds, and `is_done` tells the truth at the end.
        """
        if self.place == len(self.row):
            self.sound = False
        if not self.sound:
            return least
        taken = self.row[self.place]
        self.place += 1
        if least <= taken <= most:
            return taken
        self.sound = False
        return least

    def is_done(self):
        return self.sound and self.place == len(self.row)


def read_symbol(reader, nonterminals):
    if reader.take(NONTERMINAL, RANGE) == NONTERMINAL:
        return (NONTERMINAL, reader.take(0, nonterminals - 1))
    lo = reader.take(0, HIGHEST_BYTE)
    return (RANGE, lo, reader.take(lo, HIGHEST_BYTE))


def read_rule(reader, nonterminals):
    owner = reader.take(0, nonterminals - 1)
    size = reader.take(0, MOST_SYMBOLS)
    symbols = [read_symbol(reader, nonterminals) for place in range(size)]
    return (owner, tuple(symbols))


def grammar_of_row(row):
    """Give the grammar that a row tells, or None if it is no grammar row."""
    reader = RowReader(row)
    nonterminals = reader.take(1, MOST_NONTERMINALS)
    size = reader.take(0, MOST_RULES)
    rules = [read_rule(reader, nonterminals) for place in range(size)]
    if reader.is_done():
        return Grammar(nonterminals, rules)
    return None


def rule_of_row(row, nonterminals):
    """Give the one rule that a row tells for so many nonterminals, or None if it tells none."""
    reader = RowReader(row)
    rule = read_rule(reader, nonterminals)
    if reader.is_done():
        return rule
    return None


def row_of_grammar(grammar):
    row = [grammar.nonterminals, len(grammar.rules)]
    for owner, symbols in grammar.rules:
        row.append(owner)
        row.append(len(symbols))
        for symbol in symbols:
            row.extend(symbol)
    return row
