"""What a grammar is, and how large it and a text may be."""

MOST_NONTERMINALS = 20
MOST_RULES = 60
MOST_SYMBOLS = 8
HIGHEST_BYTE = 255
MOST_BYTES = 24

START = 0

# A symbol begins with its kind, just as it does in a grammar row.
NONTERMINAL = 0
RANGE = 1


class Grammar:
    """How many nonterminals there are, and the rules in order.

    A rule is a tuple: its nonterminal and the tuple of its symbols. A symbol is
    (NONTERMINAL, number) or (RANGE, lo, hi). No grammar is changed once it is
    made, so one may be held in several places.
    """

    def __init__(self, nonterminals, rules):
        self.nonterminals = nonterminals
        self.rules = rules


def is_too_great(grammar):
    return grammar.nonterminals > MOST_NONTERMINALS or len(grammar.rules) > MOST_RULES
