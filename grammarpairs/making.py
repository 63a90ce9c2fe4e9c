"""Grammars made of grammars. What is made may be too great: whoever asks for it looks."""

from grammarpairs.grammar import Grammar, NONTERMINAL, START


def rule_of_nonterminals(owner, numbers):
    return (owner, tuple([(NONTERMINAL, number) for number in numbers]))


def renumbered_symbol(symbol, order):
    if symbol[0] == NONTERMINAL:
        return (NONTERMINAL, order[symbol[1]])
    return symbol


def renumbered_rules(rules, order):
    """Give the rules with each nonterminal k as the number at place k of the order."""
    renumbered = []
    for owner, symbols in rules:
        row = [renumbered_symbol(symbol, order) for symbol in symbols]
        renumbered.append((order[owner], tuple(row)))
    return renumbered


def moved_rules(grammar, by):
    return renumbered_rules(grammar.rules, list(range(by, by + grammar.nonterminals)))


def right_start(left):
    """Give the right's start where a new start and the left's nonterminals stand ahead of it."""
    return 1 + left.nonterminals


def under_new_start(left, right, start_rules):
    rules = start_rules + moved_rules(left, 1) + moved_rules(right, right_start(left))
    return Grammar(1 + left.nonterminals + right.nonterminals, rules)


def choice_of(left, right):
    to_left = rule_of_nonterminals(START, [1])
    to_right = rule_of_nonterminals(START, [right_start(left)])
    return under_new_start(left, right, [to_left, to_right])


def one_behind_another(left, right):
    to_both = rule_of_nonterminals(START, [1, right_start(left)])
    return under_new_start(left, right, [to_both])


def many_of(left):
    none = rule_of_nonterminals(START, [])
    one_more = rule_of_nonterminals(START, [START, 1])
    return Grammar(1 + left.nonterminals, [none, one_more] + moved_rules(left, 1))


def put_at(left, right, place):
    """Give the left grammar with the right one in the place of a nonterminal."""
    kept = [rule for rule in left.rules if rule[0] != place]
    to_right = rule_of_nonterminals(place, [left.nonterminals])
    rules = kept + [to_right] + moved_rules(right, left.nonterminals)
    return Grammar(left.nonterminals + right.nonterminals, rules)


def turned(left):
    rules = [(owner, tuple(reversed(symbols))) for owner, symbols in left.rules]
    return Grammar(left.nonterminals, rules)


def is_order(numbers, size):
    return sorted(numbers) == list(range(size)) and numbers[0] == START


def renamed(left, order):
    return Grammar(left.nonterminals, renumbered_rules(left.rules, order))


def without_rule(left, dropped):
    return Grammar(left.nonterminals, left.rules[:dropped] + left.rules[dropped + 1:])


def with_rule(left, rule):
    return Grammar(left.nonterminals, left.rules + [rule])
