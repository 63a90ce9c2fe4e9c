import random
import unittest

from telling import FAR, ask, behind, choice, drop, grammar, held, left_after, load, many, put, rename, sized, turn

LEFT = grammar(2, "0: a 1 0", "1: b-d", "0:")
RIGHT = grammar(3, "0: 2 x", "2: y 1", "1: 0 z")
BOTH = (load(0, LEFT), load(1, RIGHT))


class MakingCase(unittest.TestCase):
    def assert_made(self, calls, row):
        """The last call answers the size of the grammar told, which is then the left one."""
        told = ask(*calls, held(0))
        self.assertEqual(told[-2:], [[0, row[0], row[1]], [0] + row])

    def assert_refused(self, calls, number):
        """The last call is refused, and both grammars are as they were."""
        before = ask(*calls[:-1], held(0), held(1))
        behind_it = ask(*calls, held(0), held(1))
        self.assertEqual(behind_it[-3], [number])
        self.assertEqual(behind_it[-2:], before[-2:])


class Choice(MakingCase):
    def test_of_two(self):
        made = grammar(6, "0: 1", "0: 3", "1: a 2 1", "2: b-d", "1:", "3: 5 x", "5: y 4", "4: 3 z")
        self.assert_made((*BOTH, choice()), made)

    def test_of_a_new_object(self):
        self.assert_made((choice(),), grammar(3, "0: 1", "0: 2"))

    def test_size(self):
        self.assert_made((load(0, [18, 0]), choice()), [20, 2, 0, 1, 0, 1, 0, 1, 0, 19])
        self.assert_refused((load(0, [19, 0]), choice()), -6)
        self.assert_refused((load(0, [17, 0]), load(1, [3, 0]), choice()), -6)
        for left, right in ((58, 0), (30, 28), (0, 58)):
            loads = (load(0, sized(1, left)), load(1, sized(1, right)))
            self.assertEqual(ask(*loads, choice())[-1], [0, 3, 60])
            more = (load(0, sized(1, left)), load(1, sized(1, right + 1)))
            self.assert_refused((*more, choice()), -6)
        self.assert_refused((load(0, sized(20, 60)), load(1, sized(20, 60)), choice()), -6)


class Behind(MakingCase):
    def test_of_two(self):
        made = grammar(6, "0: 1 3", "1: a 2 1", "2: b-d", "1:", "3: 5 x", "5: y 4", "4: 3 z")
        self.assert_made((*BOTH, behind()), made)

    def test_of_a_new_object(self):
        self.assert_made((behind(),), grammar(3, "0: 1 2"))

    def test_size(self):
        self.assert_made((load(0, [9, 0]), load(1, [10, 0]), behind()), [20, 1, 0, 2, 0, 1, 0, 10])
        self.assert_refused((load(0, [10, 0]), load(1, [10, 0]), behind()), -6)
        for left, right in ((59, 0), (30, 29), (0, 59)):
            loads = (load(0, sized(1, left)), load(1, sized(1, right)))
            self.assertEqual(ask(*loads, behind())[-1], [0, 3, 60])
            more = (load(0, sized(1, left)), load(1, sized(1, right + 1)))
            self.assert_refused((*more, behind()), -6)


class Many(MakingCase):
    def test_the_documents_example(self):
        left = load(0, grammar(1, "0: a 0", "0: b"))
        self.assert_made((left, many()), grammar(2, "0:", "0: 0 1", "1: a 1", "1: b"))

    def test_the_right_one_does_not_count(self):
        self.assert_made((*BOTH, many()), grammar(3, "0:", "0: 0 1", "1: a 2 1", "2: b-d", "1:"))

    def test_of_a_new_object_twice(self):
        self.assert_made((many(),), grammar(2, "0:", "0: 0 1"))
        self.assert_made((many(), many()), grammar(3, "0:", "0: 0 1", "1:", "1: 1 2"))

    def test_size(self):
        great = load(1, sized(20, 60))
        self.assert_made((load(0, [19, 0]), great, many()), [20, 2, 0, 0, 0, 2, 0, 0, 0, 1])
        self.assert_refused((load(0, [20, 0]), many()), -6)
        self.assertEqual(ask(load(0, sized(1, 58)), great, many())[-1], [0, 2, 60])
        self.assert_refused((load(0, sized(1, 59)), many()), -6)


class Put(MakingCase):
    def test_at_the_start(self):
        made = grammar(5, "1: b-d", "0: 2", "2: 4 x", "4: y 3", "3: 2 z")
        self.assert_made((*BOTH, put(0)), made)

    def test_at_the_last(self):
        made = grammar(5, "0: a 1 0", "0:", "1: 2", "2: 4 x", "4: y 3", "3: 2 z")
        self.assert_made((*BOTH, put(1)), made)

    def test_where_no_rules_are(self):
        self.assert_made((load(0, grammar(3, "0: 1 2", "2: a")), put(1)), grammar(4, "0: 1 2", "2: a", "1: 3"))
        self.assert_made((put(0),), grammar(2, "0: 1"))

    def test_no_such_nonterminal(self):
        for a in (-1, 2, 3, FAR, -FAR):
            self.assert_refused((*BOTH, put(a)), -4)

    def test_size(self):
        self.assert_made((load(0, [19, 0]), put(18)), [20, 1, 18, 1, 0, 19])
        self.assert_refused((load(0, [20, 0]), put(19)), -6)
        self.assert_refused((load(1, [20, 0]), put(0)), -6)
        right = load(1, sized(1, 59))
        self.assertEqual(ask(right, put(0))[-1], [0, 2, 60])
        self.assert_refused((load(1, sized(1, 60)), put(0)), -6)

    def test_rules_that_go_do_not_count(self):
        full = load(0, sized(2, 60))
        self.assert_made((full, load(1, grammar(1, "0: a")), put(0)), grammar(3, "0: 2", "2: a"))
        self.assert_refused((full, load(1, grammar(1, "0: a")), put(1)), -6)

    def test_the_refusal_told_first(self):
        for a in (-1, 20, FAR, -FAR):
            self.assert_refused((load(0, sized(20, 60)), load(1, sized(20, 60)), put(a)), -4)


class Turn(MakingCase):
    def test_each_rule_turns_and_ranges_stay(self):
        made = grammar(2, "0: 0 1 a", "1: b-d", "0:")
        self.assert_made((*BOTH, turn()), made)

    def test_of_a_new_object(self):
        self.assert_made((turn(),), [1, 0])

    def test_eight_symbols_and_the_greatest_grammar(self):
        self.assert_made((load(0, grammar(1, "0: a b c d e f g h")), turn()), grammar(1, "0: h g f e d c b a"))
        self.assert_made((load(0, sized(20, 60)), turn()), sized(20, 60))


class Rename(MakingCase):
    ROW = grammar(4, "0: 1 a 2", "1: 3", "2: 2 0", "3: b")

    def test_number_k_becomes_the_one_at_place_k(self):
        made = grammar(4, "0: 2 a 3", "2: 1", "3: 3 0", "1: b")
        self.assert_made((load(0, self.ROW), rename([0, 2, 3, 1])), made)

    def test_the_order_that_changes_nothing(self):
        self.assert_made((load(0, self.ROW), rename([0, 1, 2, 3])), self.ROW)
        self.assert_made((rename([0]),), [1, 0])
        self.assert_made((load(0, sized(20, 60)), rename(range(20))), sized(20, 60))

    def test_no_order(self):
        wrong = ([], [0], [0, 1, 2], [0, 1, 2, 3, 4], [0, 1, 1, 3], [0, 0, 2, 3], [0, 1, 2, 4])
        moved_start = ([1, 0, 2, 3], [3, 2, 1, 0])
        far = ([0, 1, 2, FAR], [FAR], [0] * 2000, list(range(2000)))
        for order in wrong + moved_start + far:
            self.assert_refused((load(0, self.ROW), rename(order)), -9)

    def test_numbers_below_zero_are_told_first(self):
        for order in ([0, 1, 2, -1], [-1], [-FAR, FAR], [0, 1, 2, 3, -1], [1, 0, 2, -3], [0] * 1999 + [-1]):
            self.assert_refused((load(0, self.ROW), rename(order)), -1)


class Drop(MakingCase):
    def test_each_rule(self):
        self.assert_made((*BOTH, drop(0)), grammar(2, "1: b-d", "0:"))
        self.assert_made((*BOTH, drop(1)), grammar(2, "0: a 1 0", "0:"))
        self.assert_made((*BOTH, drop(2)), grammar(2, "0: a 1 0", "1: b-d"))

    def test_one_of_two_that_are_the_same(self):
        self.assert_made((load(0, grammar(1, "0: a", "0: b", "0: a")), drop(2)), grammar(1, "0: a", "0: b"))

    def test_the_only_one(self):
        self.assert_made((load(0, grammar(1, "0: a")), drop(0)), [1, 0])

    def test_no_such_rule(self):
        for r in (-1, -3, 3, 4, FAR, -FAR):
            self.assert_refused((*BOTH, drop(r)), -8)
        self.assert_refused((drop(0),), -8)

    def test_of_sixty(self):
        self.assert_made((load(0, sized(1, 60)), drop(59)), sized(1, 59))
        self.assert_refused((load(0, sized(1, 60)), drop(60)), -8)


def random_symbol(source, nonterminals):
    if source.random() < 0.5:
        return [0, source.randrange(nonterminals)]
    return [1] + sorted([source.randrange(256), source.randrange(256)])


def random_row(source):
    nonterminals = source.randint(1, 20)
    size = source.randint(0, 60)
    row = [nonterminals, size]
    for _ in range(size):
        symbols = [random_symbol(source, nonterminals) for _ in range(source.randint(0, 8))]
        row += [source.randrange(nonterminals), len(symbols)] + sum(symbols, [])
    return row


class OnMixedGrammars(unittest.TestCase):
    """Grammars of all sizes, the same ones each time."""

    def setUp(self):
        source = random.Random(11)
        self.rows = [random_row(source) for _ in range(40)]
        self.source = source

    def test_held_gives_what_was_loaded(self):
        for row in self.rows:
            self.assertEqual(left_after(load(0, row)), row)

    def test_turned_twice(self):
        for row in self.rows:
            self.assertEqual(left_after(load(0, row), turn(), turn()), row)

    def test_renamed_there_and_back(self):
        for row in self.rows:
            rest = list(range(1, row[0]))
            self.source.shuffle(rest)
            order = [0] + rest
            back = [order.index(k) for k in range(row[0])]
            self.assertEqual(left_after(load(0, row), rename(order), rename(back)), row)

    def test_dropping_the_last_until_none_is_left(self):
        for row in self.rows[:10]:
            size = min(row[1], 58)
            drops = [drop(row[1] - 1 - k) for k in range(size)]
            told = ask(load(0, row), *drops)
            self.assertEqual(told[1:], [[0, row[0], row[1] - 1 - k] for k in range(size)])


if __name__ == "__main__":
    unittest.main()
