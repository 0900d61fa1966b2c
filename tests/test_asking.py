import copy
import unittest
from itertools import product

import samples
from forkform.asking import always, count, example, same, ways
from forkform.forks import forked

EMPTY_ALONE = samples.just_at([])
FULL_ALONE = samples.just_at(samples.LETTERS)


def holding(statement):
    return [setting for setting in samples.all_settings() if samples.expected(statement, setting)]


def in_order_of_so():
    """The 16 settings, each letter so ahead of not so, the first letter the slowest."""
    return [[letter for letter, value in zip(samples.LETTERS, values) if value]
            for values in product([True, False], repeat=4)]


def expected_ways(form):
    """Point 7: the paths to True, in the order in which the settings come to them."""
    made = []
    for setting in in_order_of_so():
        steps, end = samples.path(form, setting)
        if end and steps not in made:
            made.append(steps)
    return made


def fits(way, setting):
    return all((letter in setting) == value for letter, value in way)


class Ways(unittest.TestCase):
    def assert_kinds(self, got, about):
        self.assertIs(type(got), list, about)
        for way in got:
            self.assertIs(type(way), list, about)
            for pair in way:
                self.assertIs(type(pair), tuple, about)
                self.assertEqual(len(pair), 2, about)
                self.assertIs(type(pair[0]), str, about)
                self.assertIs(type(pair[1]), bool, about)
            letters = [letter for letter, value in way]
            self.assertEqual(letters, sorted(set(letters)), about)

    def assert_ways(self, statement, held):
        got = ways(statement)
        self.assert_kinds(got, statement)
        self.assertEqual(got, expected_ways(forked(statement)), statement)
        for setting in samples.all_settings():
            fitting = [way for way in got if fits(way, setting)]
            self.assertEqual(len(fitting), 1 if setting in held else 0, (statement, setting))

    def test_true_and_false(self):
        for letter in samples.LETTERS:
            self.assertEqual(ways(("or", letter, ("not", letter))), [[]])
            self.assertEqual(ways(("if", letter, letter)), [[]])
            self.assertEqual(ways(("and", letter, ("not", letter))), [])

    def test_one_letter(self):
        for letter in samples.LETTERS:
            self.assertEqual(ways(letter), [[(letter, True)]])
            self.assertEqual(ways(("not", letter)), [[(letter, False)]])

    def test_two_letters(self):
        self.assertEqual(ways(("and", "b", "a")), [[("a", True), ("b", True)]])
        self.assertEqual(ways(("or", "d", "b")), [[("b", True)], [("b", False), ("d", True)]])
        self.assertEqual(ways(("if", "a", "c")), [[("a", True), ("c", True)], [("a", False)]])
        self.assertEqual(ways(("if", "c", "a")), [[("a", True)], [("a", False), ("c", False)]])
        self.assertEqual(ways(("and", ("if", "a", "d"), ("if", "d", "a"))),
                         [[("a", True), ("d", True)], [("a", False), ("d", False)]])

    def test_three_letters(self):
        self.assertEqual(ways(("or", "d", ("or", "c", "a"))),
                         [[("a", True)], [("a", False), ("c", True)], [("a", False), ("c", False), ("d", True)]])
        self.assertEqual(ways(("if", ("and", "b", "c"), "d")),
                         [[("b", True), ("c", True), ("d", True)], [("b", True), ("c", False)], [("b", False)]])

    def test_four_letters(self):
        self.assertEqual(ways(("and", ("or", "a", "b"), ("or", "c", "d"))), [
            [("a", True), ("c", True)],
            [("a", True), ("c", False), ("d", True)],
            [("a", False), ("b", True), ("c", True)],
            [("a", False), ("b", True), ("c", False), ("d", True)],
        ])
        self.assertEqual(ways(FULL_ALONE), [[("a", True), ("b", True), ("c", True), ("d", True)]])
        self.assertEqual(ways(EMPTY_ALONE), [[("a", False), ("b", False), ("c", False), ("d", False)]])

    def test_as_many_ways_as_can_be(self):
        odd = [setting for setting in samples.all_settings() if len(setting) % 2 == 1]
        wanted = [[(letter, letter in setting) for letter in samples.LETTERS]
                  for setting in in_order_of_so() if setting in odd]
        self.assertEqual(len(wanted), 8)
        self.assertEqual(ways(samples.just_at_each(odd)), wanted)

    def test_few_tuples(self):
        for statement in samples.one_deeper(samples.simple_statements()):
            self.assert_ways(statement, holding(statement))

    def test_tables(self):
        for three, held in samples.over_three_letters():
            self.assert_ways(samples.just_at_each(held), held)
        for held in samples.tables(512):
            self.assert_ways(samples.just_at_each(held), held)

    def test_deep_and_long_statements(self):
        for statement in samples.deep_statements():
            self.assert_ways(statement, holding(statement))

    def test_an_answer_is_nobody_elses(self):
        statement = ("or", "a", "b")
        got = ways(statement)
        got[0].append(("c", True))
        got.pop()
        self.assertEqual(ways(statement), [[("a", True)], [("a", False), ("b", True)]])
        ways(samples.EVERYWHERE)[0].append(("a", True))
        self.assertEqual(ways(samples.EVERYWHERE), [[]])
        ways(samples.NOWHERE).append([])
        self.assertEqual(ways(samples.NOWHERE), [])


class HeldAt(unittest.TestCase):
    """always, example and count, each against the settings at which a statement holds."""

    def assert_asked(self, statement, held):
        self.assertIs(always(statement), len(held) == 16, statement)
        number = count(statement)
        self.assertIs(type(number), int, statement)
        self.assertEqual(number, len(held), statement)
        setting = example(statement)
        if not held:
            self.assertIsNone(setting, statement)
            return
        self.assertIs(type(setting), list, statement)
        self.assertEqual(len(setting), len(set(setting)), statement)
        self.assertIn(sorted(setting), held, statement)

    def test_everywhere_and_nowhere(self):
        for letter in samples.LETTERS:
            self.assert_asked(("or", letter, ("not", letter)), samples.all_settings())
            self.assert_asked(("if", letter, letter), samples.all_settings())
            self.assert_asked(("and", letter, ("not", letter)), [])
            self.assert_asked(("not", ("if", letter, letter)), [])

    def test_at_one_setting_alone(self):
        for setting in samples.all_settings():
            self.assert_asked(samples.just_at(setting), [setting])
        self.assertEqual(example(EMPTY_ALONE), [])
        self.assertEqual(sorted(example(FULL_ALONE)), ["a", "b", "c", "d"])

    def test_at_all_settings_but_one(self):
        for setting in samples.all_settings():
            others = [one for one in samples.all_settings() if one != setting]
            self.assert_asked(("not", samples.just_at(setting)), others)

    def test_numbers(self):
        for statement, number in [("a", 8), ("d", 8), (("not", "b"), 8), (("and", "a", "b"), 4), (("or", "c", "d"), 12),
                                  (("if", "a", "d"), 12), (("and", "a", "a"), 8), (samples.EVERYWHERE, 16),
                                  (samples.NOWHERE, 0), (EMPTY_ALONE, 1), (FULL_ALONE, 1)]:
            self.assertEqual(count(statement), number, statement)

    def test_few_tuples(self):
        for statement in samples.one_deeper(samples.simple_statements()):
            self.assert_asked(statement, holding(statement))

    def test_tables(self):
        for held in samples.tables(512):
            self.assert_asked(samples.just_at_each(held), held)

    def test_deep_and_long_statements(self):
        for statement in samples.deep_statements():
            self.assert_asked(statement, holding(statement))

    def test_an_example_is_nobody_elses(self):
        example(EMPTY_ALONE).append("a")
        self.assertEqual(example(EMPTY_ALONE), [])
        example(FULL_ALONE).clear()
        self.assertEqual(sorted(example(FULL_ALONE)), ["a", "b", "c", "d"])
        self.assertEqual(count(EMPTY_ALONE), 1)


class Same(unittest.TestCase):
    def test_in_different_words(self):
        for one, other in [
            (("if", "a", "b"), ("or", ("not", "a"), "b")),
            (("not", ("and", "c", "d")), ("or", ("not", "d"), ("not", "c"))),
            (("and", "a", "b"), ("and", "b", "a")),
            ("a", ("or", ("and", "a", "d"), ("and", "a", ("not", "d")))),
            ("b", ("not", ("not", "b"))),
            (("or", "a", ("not", "a")), ("if", "d", "d")),
            (("and", "a", ("not", "a")), ("not", ("if", "d", "d"))),
        ]:
            self.assertIs(same(one, other), True, (one, other))
            self.assertIs(same(other, one), True, (one, other))

    def test_not_the_same(self):
        for one, other in [("a", "b"), ("a", ("not", "a")), (("if", "a", "b"), ("if", "b", "a")),
                           (("and", "a", "b"), ("or", "a", "b")), (samples.EVERYWHERE, samples.NOWHERE),
                           (EMPTY_ALONE, FULL_ALONE)]:
            self.assertIs(same(one, other), False, (one, other))
            self.assertIs(same(other, one), False, (one, other))

    def test_as_often_but_elsewhere(self):
        for setting in samples.all_settings():
            for another in samples.all_settings():
                got = same(samples.just_at(setting), samples.just_at(another))
                self.assertIs(got, setting == another, (setting, another))

    def test_different_at_one_setting_only(self):
        for statement in samples.simple_statements():
            for setting in samples.all_settings():
                alone = samples.just_at(setting)
                # The statement with just this setting turned over.
                turned = ("and", ("or", statement, alone), ("not", ("and", statement, alone)))
                self.assertIs(same(statement, turned), False, (statement, setting))
                self.assertIs(same(turned, statement), False, (statement, setting))
        for setting in samples.all_settings():
            alone = samples.just_at(setting)
            self.assertIs(same(alone, samples.NOWHERE), False, setting)
            self.assertIs(same(("not", alone), samples.EVERYWHERE), False, setting)

    def test_each_two_with_few_tuples(self):
        statements = samples.simple_statements()
        for one in statements:
            for other in statements:
                self.assertIs(same(one, other), holding(one) == holding(other), (one, other))

    def test_deep_and_long_statements(self):
        for statement in samples.deep_statements():
            plain = samples.just_at_each(holding(statement))
            self.assertIs(same(statement, plain), True)
            self.assertIs(same(plain, statement), True)
            self.assertIs(same(statement, ("not", plain)), False)
        for side in ["left", "right"]:
            self.assertIs(same(samples.chain(110, side, "a"), samples.chain(110, side, "c")), False)


class NothingKept(unittest.TestCase):
    def test_nothing_is_changed_and_a_call_answers_the_same_again(self):
        statements = samples.simple_statements() + [EMPTY_ALONE, FULL_ALONE, samples.EVERYWHERE, samples.NOWHERE]
        kept = copy.deepcopy(statements)
        for ask in [ways, always, example, count]:
            first = [ask(statement) for statement in statements]
            again = [ask(statement) for statement in reversed(statements)]
            self.assertEqual(again[::-1], first)
        for statement in statements:
            self.assertIs(same(statement, statement), True)
        self.assertEqual(statements, kept)


if __name__ == "__main__":
    unittest.main()
