"""The calls: each takes its arguments from the reader and gives its answer as a list of numbers."""

from grammarpairs.calls import CallReader
from grammarpairs.comparing import first_difference, just_one, left_alone, rules_not_in
from grammarpairs.covering import reads_text
from grammarpairs.grammar import HIGHEST_BYTE, MOST_BYTES, is_too_great
from grammarpairs.making import choice_of, is_order, many_of, one_behind_another, put_at, renamed, turned
from grammarpairs.making import with_rule, without_rule
from grammarpairs.pair import Pair
from grammarpairs.refusals import BELOW_ZERO, NO_BYTE, NO_GRAMMAR_ROW, NO_ORDER, NO_RULE, NO_SUCH_LENGTH
from grammarpairs.refusals import NO_SUCH_NONTERMINAL, NO_SUCH_RULE, NO_SUCH_SIDE, NONE_BEFORE, TOO_GREAT, TOO_LONG
from grammarpairs.refusals import TOO_MANY_TEXTS
from grammarpairs.rows import grammar_of_row, row_of_grammar, rule_of_row
from grammarpairs.signs import are_too_many, signs_of, texts_of
from grammarpairs.using import first_text_using, first_uses

LEFT = 0
RIGHT = 1

# No text that is gone through has more bytes than this.
MOST_GONE_THROUGH = 8


def is_side(number):
    return number in (LEFT, RIGHT)


def has_below_zero(row):
    return min(row, default=0) < 0


def is_rule_number(number, grammar):
    return 0 <= number < len(grammar.rules)


def grammar_at(pair, side):
    return pair.left if side == LEFT else pair.right


def size_answer(grammar):
    return [0, grammar.nonterminals, len(grammar.rules)]


def make_left(pair, grammar):
    """Let a grammar become the left one; its size is the last thing that can refuse it."""
    if is_too_great(grammar):
        return [TOO_GREAT]
    pair.become_left(grammar)
    return size_answer(grammar)


def load(pair, reader):
    side = reader.take_number()
    row = reader.take_row()
    if has_below_zero(row):
        return [BELOW_ZERO]
    grammar = grammar_of_row(row)
    if grammar is None:
        return [NO_GRAMMAR_ROW]
    if not is_side(side):
        return [NO_SUCH_SIDE]
    if side == LEFT:
        return make_left(pair, grammar)
    pair.right = grammar
    return size_answer(grammar)


def held(pair, reader):
    side = reader.take_number()
    if not is_side(side):
        return [NO_SUCH_SIDE]
    return [0] + row_of_grammar(grammar_at(pair, side))


def choice(pair, reader):
    return make_left(pair, choice_of(pair.left, pair.right))


def behind(pair, reader):
    return make_left(pair, one_behind_another(pair.left, pair.right))


def many(pair, reader):
    return make_left(pair, many_of(pair.left))


def put(pair, reader):
    place = reader.take_number()
    if not 0 <= place < pair.left.nonterminals:
        return [NO_SUCH_NONTERMINAL]
    return make_left(pair, put_at(pair.left, pair.right, place))


def turn(pair, reader):
    return make_left(pair, turned(pair.left))


def rename(pair, reader):
    order = reader.take_row()
    if has_below_zero(order):
        return [BELOW_ZERO]
    if not is_order(order, pair.left.nonterminals):
        return [NO_ORDER]
    return make_left(pair, renamed(pair.left, order))


def drop(pair, reader):
    dropped = reader.take_number()
    if not is_rule_number(dropped, pair.left):
        return [NO_SUCH_RULE]
    return make_left(pair, without_rule(pair.left, dropped))


def add(pair, reader):
    row = reader.take_row()
    if has_below_zero(row):
        return [BELOW_ZERO]
    rule = rule_of_row(row, pair.left.nonterminals)
    if rule is None:
        return [NO_RULE]
    return make_left(pair, with_rule(pair.left, rule))


def undo(pair, reader):
    if not pair.before:
        return [NONE_BEFORE]
    pair.go_back()
    return size_answer(pair.left)


def swap(pair, reader):
    pair.change_sides()
    return size_answer(pair.left)


def reads(pair, reader):
    side = reader.take_number()
    text = reader.take_row()
    if not all([0 <= byte <= HIGHEST_BYTE for byte in text]):
        return [NO_BYTE]
    if len(text) > MOST_BYTES:
        return [TOO_LONG]
    if not is_side(side):
        return [NO_SUCH_SIDE]
    return [0, 1 if reads_text(grammar_at(pair, side), tuple(text)) else 0]


def counted(numbers):
    return [len(numbers)] + list(numbers)


def changed(pair, reader):
    of_left = rules_not_in(pair.left, pair.right)
    of_right = rules_not_in(pair.right, pair.left)
    return [0] + counted(of_left) + counted(of_right)


def refusal_of_texts(signs, most):
    """Give the number that refuses to go through the texts of signs, or 0."""
    if not 0 <= most <= MOST_GONE_THROUGH:
        return NO_SUCH_LENGTH
    if are_too_many(signs, most):
        return TOO_MANY_TEXTS
    return 0


def text_answer(text):
    if text is None:
        return [0]
    return [1] + counted(text)


def compare(pair, reader, differs):
    most = reader.take_number()
    signs = signs_of([pair.left, pair.right])
    refusal = refusal_of_texts(signs, most)
    if refusal < 0:
        return [refusal]
    return text_answer(first_difference(pair.left, pair.right, texts_of(signs, most), differs))


def within(pair, reader):
    return compare(pair, reader, left_alone)


def same(pair, reader):
    return compare(pair, reader, just_one)


def sentence(pair, reader):
    rule = reader.take_number()
    most = reader.take_number()
    if not is_rule_number(rule, pair.left):
        return [NO_SUCH_RULE]
    signs = signs_of([pair.left])
    refusal = refusal_of_texts(signs, most)
    if refusal < 0:
        return [refusal]
    return text_answer(first_text_using(pair.left, rule, texts_of(signs, most)))


def cover(pair, reader):
    most = reader.take_number()
    signs = signs_of([pair.left])
    refusal = refusal_of_texts(signs, most)
    if refusal < 0:
        return [refusal]
    uses = first_uses(pair.left, texts_of(signs, most))
    answer = [0, len(uses)]
    for text, rules in uses:
        answer.extend(counted(text) + counted(rules))
    return answer


CALLS = {
    0: load,
    1: held,
    2: choice,
    3: behind,
    4: many,
    5: put,
    6: turn,
    7: rename,
    8: drop,
    9: add,
    10: undo,
    11: swap,
    12: reads,
    13: changed,
    14: within,
    15: same,
    16: sentence,
    17: cover,
}


def answers_on(pair, calls):
    """Answer the calls one behind another on an object that may already hold something."""
    reader = CallReader(calls)
    told = []
    while reader.has_more():
        call = CALLS[reader.take_number()]
        answer = call(pair, reader)
        told.append(len(answer))
        told.extend(answer)
    return told


def answers(calls):
    return answers_on(Pair(), calls)
