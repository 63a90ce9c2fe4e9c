"""The numbers that refuse a call."""

BELOW_ZERO = -1
NO_GRAMMAR_ROW = -2
NO_SUCH_NONTERMINAL = -4
NO_SUCH_SIDE = -5
TOO_GREAT = -6
NO_SUCH_RULE = -8
NO_ORDER = -9
