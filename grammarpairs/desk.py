"""The calls: each takes its arguments from the reader and gives its answer as a list of numbers."""

from grammarpairs.calls import CallReader
from grammarpairs.grammar import is_too_great
from grammarpairs.making import choice_of, is_order, many_of, one_behind_another, put_at, renamed, turned, without_rule
from grammarpairs.pair import Pair
from grammarpairs.refusals import BELOW_ZERO, NO_GRAMMAR_ROW, NO_ORDER, NO_SUCH_NONTERMINAL, NO_SUCH_RULE
from grammarpairs.refusals import NO_SUCH_SIDE, TOO_GREAT
from grammarpairs.rows import grammar_of_row, row_of_grammar

LEFT = 0
RIGHT = 1


def is_side(number):
    return number in (LEFT, RIGHT)


def has_below_zero(row):
    return min(row, default=0) < 0


def size_answer(grammar):
    return [0, grammar.nonterminals, len(grammar.rules)]


def make_left(pair, grammar):
    """Let a grammar become the left one; its size is the last thing that can refuse it."""
    if is_too_great(grammar):
        return [TOO_GREAT]
    pair.become_left(grammar)
    return size_answer(grammar)


def load(pair, reader):
    side = reader.take_number()
    row = reader.take_row()
    if has_below_zero(row):
        return [BELOW_ZERO]
    grammar = grammar_of_row(row)
    if grammar is None:
        return [NO_GRAMMAR_ROW]
    if not is_side(side):
        return [NO_SUCH_SIDE]
    if side == LEFT:
        return make_left(pair, grammar)
    pair.right = grammar
    return size_answer(grammar)


def held(pair, reader):
    side = reader.take_number()
    if not is_side(side):
        return [NO_SUCH_SIDE]
    grammar = pair.left if side == LEFT else pair.right
    return [0] + row_of_grammar(grammar)


def choice(pair, reader):
    return make_left(pair, choice_of(pair.left, pair.right))


def behind(pair, reader):
    return make_left(pair, one_behind_another(pair.left, pair.right))


def many(pair, reader):
    return make_left(pair, many_of(pair.left))


def put(pair, reader):
    place = reader.take_number()
    if not 0 <= place < pair.left.nonterminals:
        return [NO_SUCH_NONTERMINAL]
    return make_left(pair, put_at(pair.left, pair.right, place))


def turn(pair, reader):
    return make_left(pair, turned(pair.left))


def rename(pair, reader):
    order = reader.take_row()
    if has_below_zero(order):
        return [BELOW_ZERO]
    if not is_order(order, pair.left.nonterminals):
        return [NO_ORDER]
    return make_left(pair, renamed(pair.left, order))


def drop(pair, reader):
    dropped = reader.take_number()
    if not 0 <= dropped < len(pair.left.rules):
        return [NO_SUCH_RULE]
    return make_left(pair, without_rule(pair.left, dropped))


CALLS = {
    0: load,
    1: held,
    2: choice,
    3: behind,
    4: many,
    5: put,
    6: turn,
    7: rename,
    8: drop,
}


def answers_on(pair, calls):
    """Answer the calls one behind another on an object that may already hold something."""
    reader = CallReader(calls)
    told = []
    while reader.has_more():
        call = CALLS[reader.take_number()]
        answer = call(pair, reader)
        told.append(len(answer))
        told.extend(answer)
    return told


def answers(calls):
    return answers_on(Pair(), calls)
