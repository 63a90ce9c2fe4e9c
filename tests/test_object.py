"""What is held from call to call, and what the one function does with what is handed in."""

import unittest

from grammarpairs.desk import answers
from grammarpairs.pair import Pair
from grammarpairs.rows import row_of_grammar
from telling import FAR, add, ask, ask_on, behind, changed, choice, cover, covered, drop, grammar, held, joined, load
from telling import many, put, reads, rename, same, sentence, shown, sized, swap, turn, undo, within

LEFT = grammar(2, "0: a 1", "1: b")
RIGHT = grammar(1, "0: c")

REFUSED = (
    (load(0, [-1]), -1), (load(1, [-1]), -1), (load(0, []), -2), (load(1, []), -2), (load(2, RIGHT), -5),
    (held(2), -5), (put(2), -4), (rename([-1]), -1), (rename([1, 0]), -9), (drop(2), -8), (add([-1]), -1),
    (add([2, 0]), -2), (reads(0, [256]), -1), (reads(0, "a" * 25), -3), (reads(2, "a"), -5), (within(9), -7),
    (same(-1), -7), (within(8), -10), (same(5), -10), (sentence(2, 1), -8), (sentence(0, 9), -7), (sentence(0, 8), -10),
    (cover(9), -7), (cover(8), -10),
)


class Guarded(list):
    """A list that raises when something would change it, if only for a while."""

    def changes(self, *arguments):
        raise AssertionError("what is handed in is changed")

    __setitem__ = __delitem__ = __iadd__ = __imul__ = changes
    append = clear = extend = insert = pop = remove = reverse = sort = changes


def before(pair):
    return [row_of_grammar(made) for made in pair.before]


class LeftOnesBefore(unittest.TestCase):
    def test_none_at_the_beginning(self):
        self.assertEqual(before(Pair()), [])

    def test_each_call_that_makes_a_left_one_remembers_the_one_before(self):
        made = (load(0, RIGHT), choice(), behind(), many(), put(1), turn(), rename([0, 1]), drop(0), add([0, 0]))
        for call in (*made, swap()):
            pair = Pair()
            ask_on(pair, load(0, LEFT), call)
            self.assertEqual(before(pair), [LEFT, [1, 0]])

    def test_a_right_one_is_not_remembered(self):
        pair = Pair()
        ask_on(pair, load(1, RIGHT), load(1, LEFT), held(0))
        self.assertEqual(before(pair), [])

    def test_at_most_sixteen_the_latest_first(self):
        pair = Pair()
        ask_on(pair, *[load(0, [k, 0]) for k in range(2, 18)])
        self.assertEqual(before(pair), [[k, 0] for k in range(16, 0, -1)])
        ask_on(pair, load(0, [18, 0]))
        self.assertEqual(before(pair), [[k, 0] for k in range(17, 1, -1)])
        ask_on(pair, load(0, [19, 0]), load(0, [20, 0]))
        self.assertEqual(before(pair), [[k, 0] for k in range(19, 3, -1)])


class Refusals(unittest.TestCase):
    def assert_as_it_was(self, pair, call, number):
        rows = ask_on(pair, held(0), held(1))
        remembered = before(pair)
        self.assertEqual(ask_on(pair, call), [[number]])
        self.assertEqual(ask_on(pair, held(0), held(1)), rows)
        self.assertEqual(before(pair), remembered)

    def test_the_object_is_as_it_was(self):
        for call, number in REFUSED:
            pair = Pair()
            ask_on(pair, load(0, LEFT), load(1, RIGHT))
            self.assert_as_it_was(pair, call, number)

    def test_too_great_leaves_it_as_it_was_too(self):
        for call in (choice(), behind(), many(), put(0), add([0, 0])):
            pair = Pair()
            ask_on(pair, load(0, sized(20, 60)), load(1, RIGHT))
            self.assert_as_it_was(pair, call, -6)

    def test_undo_without_any_before_leaves_it_as_it_was(self):
        pair = Pair()
        ask_on(pair, load(1, RIGHT))
        self.assert_as_it_was(pair, undo(), -11)

    def test_calls_behind_a_refusal_are_answered(self):
        for call, number in REFUSED:
            told = ask(load(0, LEFT), load(1, RIGHT), call, held(0), many(), held(1), undo(), undo(), undo())
            expected = [[number], [0] + LEFT, [0, 3, 4], [0] + RIGHT, [0, 2, 2], [0, 1, 0], [-11]]
            self.assertEqual(told[2:], expected)


class OneList(unittest.TestCase):
    CALLS = (
        load(1, RIGHT), choice(), load(0, LEFT), turn(), many(), rename([0, 2, 1]), drop(FAR), put(2), held(0),
        behind(), drop(0), held(1), held(0), undo(), undo(), undo(), add([2, 1, 1, 99, 99]), held(0), swap(), changed(),
        within(2), same(2), reads(1, "cba"), reads(1, "ac"), swap(), cover(2), sentence(3, 3), sentence(4, 3), undo(),
        held(1), cover(8),
    )
    PUT = grammar(4, "0:", "0: 0 2", "1: b", "2: 3", "3: c")
    BEHIND = grammar(6, "1:", "1: 1 3", "2: b", "3: 4", "4: c", "5: c")
    ADDED = grammar(3, "0:", "0: 0 2", "2: 1 a", "1: b", "2: c")

    def test_counts_and_answers_as_one_list(self):
        self.assertEqual(answers([1, 0]), [3, 0, 1, 0])
        self.assertEqual(answers([1, 5, 6, 1, 1]), [1, -5, 3, 0, 1, 0, 3, 0, 1, 0])

    def test_several_calls_on_one_object(self):
        expected = [
            [0, 1, 1], [0, 3, 3], [0, 2, 2], [0, 2, 2], [0, 3, 4], [0, 3, 4], [-8], [0, 4, 5], [0] + self.PUT,
            [0, 6, 7], [0, 6, 6], [0] + RIGHT, [0] + self.BEHIND, [0, 6, 7], [0, 4, 5], [0, 3, 4], [0, 3, 5],
            [0] + self.ADDED, [0, 1, 1], [0, 1, 0, 5, 0, 1, 2, 3, 4], [0], shown(""), [0, 1], [0, 0], [0, 3, 5],
            covered(("", [0]), ("c", [1, 4]), ("ba", [2, 3])), shown("ba"), shown("c"), [0, 1, 1], [0] + RIGHT,
            covered(("c", [0])),
        ]
        self.assertEqual(ask(*self.CALLS), expected)

    def test_sixty_calls(self):
        self.assertEqual(ask(*[turn()] * 59, held(0)), [[0, 1, 0]] * 60)

    def test_what_is_handed_in_stays(self):
        calls = joined(self.CALLS)
        kept = list(calls)
        answers(calls)
        self.assertEqual(calls, kept)

    def test_what_is_handed_in_is_not_changed_for_a_while_either(self):
        calls = joined(self.CALLS)
        self.assertEqual(answers(Guarded(calls)), answers(calls))
        for call, number in REFUSED:
            self.assertEqual(answers(Guarded(joined([load(0, LEFT), load(1, RIGHT), call])))[-2:], [1, number])

    def test_every_call_is_among_them(self):
        self.assertEqual(sorted({call[0] for call in self.CALLS}), list(range(18)))

    def test_a_second_time_answers_as_the_first(self):
        calls = joined(self.CALLS)
        first = answers(calls)
        kept = list(first)
        first.clear()
        self.assertEqual(answers(calls), kept)

    def test_whole_numbers_alone_are_answered(self):
        told = answers(joined(self.CALLS))
        self.assertIs(type(told), list)
        self.assertEqual({type(number) for number in told}, {int})


if __name__ == "__main__":
    unittest.main()
