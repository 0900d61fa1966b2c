import copy
import unittest
from itertools import permutations

import samples
from forkform.telling import told_at, told_with

VARIED = [
    "a", "d",
    ("not", "b"),
    ("and", "a", "c"),
    ("or", "d", ("not", "a")),
    ("if", ("and", "a", "b"), ("or", "c", "d")),
    ("if", ("if", "c", "a"), ("not", ("and", "d", "b"))),
    ("or", "a", ("not", "a")),
    ("and", "b", ("not", "b")),
]


def put(setting, letter, value):
    """The changed setting, its letters in order: point 3 says that the order makes no difference."""
    return [one for one in samples.LETTERS if (value if one == letter else one in setting)]


class Told(unittest.TestCase):
    def assert_told(self, got, wanted, about=None):
        self.assertIsInstance(got, list)
        self.assertEqual(got, wanted, about)
        for one in got:
            self.assertIsInstance(one, bool)


class ToldAt(Told):
    def test_tables_of_the_words(self):
        settings = [[], ["b"], ["a"], ["a", "b"]]
        self.assert_told(told_at("a", settings), [False, False, True, True])
        self.assert_told(told_at(("not", "a"), settings), [True, True, False, False])
        self.assert_told(told_at(("and", "a", "b"), settings), [False, False, False, True])
        self.assert_told(told_at(("or", "a", "b"), settings), [False, True, True, True])
        self.assert_told(told_at(("if", "a", "b"), settings), [True, True, False, True])
        self.assert_told(told_at(("if", "b", "a"), settings), [True, False, True, True])

    def test_each_word_over_each_letter_at_all_settings(self):
        settings = samples.all_settings()
        self.assertEqual(len(settings), 16)
        for statement in samples.simple_statements():
            wanted = [samples.expected(statement, setting) for setting in settings]
            self.assert_told(told_at(statement, settings), wanted, statement)

    def test_two_words_deep_at_all_settings(self):
        settings = samples.all_settings()
        simple = samples.simple_statements()
        table = {s: [samples.expected(s, setting) for setting in settings] for s in samples.one_deeper(simple)}
        for statement, wanted in table.items():
            self.assertEqual(told_at(statement, settings), wanted, statement)

    def test_the_empty_setting(self):
        self.assert_told(told_at("a", [[]]), [False])
        self.assert_told(told_at(("not", "d"), [[]]), [True])
        self.assert_told(told_at(("and", "a", "b"), [[]]), [False])
        self.assert_told(told_at(("or", "a", "b"), [[]]), [False])
        self.assert_told(told_at(("if", "a", "b"), [[]]), [True])

    def test_letters_in_any_order(self):
        orders = samples.all_orders()
        for statement in VARIED:
            wanted = [samples.expected(statement, sorted(setting)) for setting in orders]
            self.assert_told(told_at(statement, orders), wanted, statement)

    def test_an_empty_list_of_settings(self):
        for statement in VARIED:
            self.assert_told(told_at(statement, []), [])

    def test_a_setting_more_than_once(self):
        one = ["c", "a"]
        self.assert_told(told_at("a", [one, [], one, ["a", "c"], [], ["c", "a"]]),
                         [True, False, True, True, False, True])

    def test_nothing_is_changed(self):
        for statement in VARIED:
            kept = copy.deepcopy(statement)
            settings = samples.all_orders()
            before = copy.deepcopy(settings)
            lists = list(settings)
            got = told_at(statement, settings)
            self.assertEqual(settings, before)
            self.assertTrue(all(one is other for one, other in zip(settings, lists)))
            self.assertEqual(statement, kept)
            self.assertIsNot(got, settings)
            self.assertEqual(told_at(statement, settings), got)


class ToldAtBounds(Told):
    def test_nots_one_within_the_other(self):
        for depth in [109, 110, 111, 130]:
            even = depth % 2 == 0
            self.assert_told(told_at(samples.nots(depth, "a"), [["a"], []]), [even, not even])

    def test_a_hundred_and_ten_tuples_and_somewhat_more(self):
        settings = samples.all_settings()
        for depth in [109, 110, 111, 130]:
            for side in ["left", "right"]:
                for word in samples.WORDS:
                    statement = samples.chain(depth, side, "a", word)
                    wanted = [samples.expected(statement, setting) for setting in settings]
                    self.assert_told(told_at(statement, settings), wanted)

    def test_the_innermost_letter_counts(self):
        for side in ["left", "right"]:
            self.assert_told(told_at(samples.chain(110, side, "a"), [["a", "b"], ["b"]]), [True, False])
            self.assert_told(told_at(samples.chain(110, side, "a", "or"), [["a"], []]), [True, False])

    def test_a_thousand_letters(self):
        settings = samples.all_settings()
        for amount in [1000, 1020]:
            letters = [samples.LETTERS[place % 4] for place in range(amount)]
            for word in samples.WORDS:
                statement = samples.balanced(letters, word)
                wanted = [samples.expected(statement, setting) for setting in settings]
                self.assert_told(told_at(statement, settings), wanted)
        statement = samples.thousand_at_full_depth("b")
        self.assert_told(told_at(statement, [["a", "b"], ["a"], ["b"]]), [True, False, False])


class ToldWith(Told):
    def test_the_letter_in_the_setting_and_not_in_it(self):
        truth = ("or", "d", ("not", "d"))
        settings = [["a"], []]
        self.assert_told(told_with("a", truth, "a", True, settings), [True, True])
        self.assert_told(told_with("a", truth, "a", False, settings), [False, False])
        self.assert_told(told_with(("not", "a"), truth, "a", True, settings), [False, False])
        self.assert_told(told_with(("not", "a"), truth, "a", False, settings), [True, True])

    def test_the_other_letters_stay(self):
        truth = ("or", "d", ("not", "d"))
        settings = [["a", "b"], ["b"], ["a"], []]
        for value in [True, False]:
            self.assert_told(told_with("b", truth, "a", value, settings), [True, True, False, False])

    def test_other_is_asked_at_the_setting_itself(self):
        truth = ("or", "d", ("not", "d"))
        settings = [["a"], []]
        for value in [True, False]:
            self.assert_told(told_with(truth, "a", "a", value, settings), [True, False])
            self.assert_told(told_with(truth, ("not", "a"), "a", value, settings), [False, True])
        self.assert_told(told_with("a", ("not", "a"), "a", True, settings), [False, True])
        self.assert_told(told_with(("not", "a"), "a", "a", False, settings), [True, False])

    def test_both_are_asked(self):
        settings = [["c", "d"], ["c"], ["d"], []]
        self.assert_told(told_with("c", "d", "a", True, settings), [True, False, False, False])

    def test_every_letter_and_value_at_all_settings(self):
        settings = samples.all_settings()
        for statement in VARIED:
            for other in VARIED:
                for letter in samples.LETTERS:
                    for value in [True, False]:
                        wanted = [samples.expected(other, setting)
                                  and samples.expected(statement, put(setting, letter, value))
                                  for setting in settings]
                        self.assert_told(told_with(statement, other, letter, value, settings), wanted,
                                         (statement, other, letter, value))

    def test_the_letter_at_any_place(self):
        truth = ("or", "d", ("not", "d"))
        orders = [list(order) for order in permutations(samples.LETTERS)]
        others = ("and", ("and", "b", "c"), "d")
        for statement, wanted in [(("and", "a", others), [True, False]), (("and", ("not", "a"), others), [False, True])]:
            self.assert_told(told_with(statement, truth, "a", True, orders), [wanted[0]] * 24)
            self.assert_told(told_with(statement, truth, "a", False, orders), [wanted[1]] * 24)

    def test_letters_in_any_order(self):
        orders = samples.all_orders()
        for statement in VARIED:
            for letter in samples.LETTERS:
                for value in [True, False]:
                    wanted = [samples.expected("c", setting)
                              and samples.expected(statement, put(setting, letter, value))
                              for setting in orders]
                    self.assert_told(told_with(statement, "c", letter, value, orders), wanted)

    def test_an_empty_list_of_settings(self):
        for value in [True, False]:
            self.assert_told(told_with("a", "b", "a", value, []), [])

    def test_a_setting_more_than_once(self):
        one = ["b"]
        self.assert_told(told_with("a", "b", "a", True, [one, [], one, ["b"]]), [True, False, True, True])
        self.assertEqual(one, ["b"])

    def test_nothing_is_changed(self):
        for letter in samples.LETTERS:
            for value in [True, False]:
                statement = ("if", "a", ("and", "b", "c"))
                other = ("or", "d", ("not", "a"))
                settings = samples.all_orders()
                before = copy.deepcopy(settings)
                lists = list(settings)
                got = told_with(statement, other, letter, value, settings)
                self.assertEqual(settings, before)
                self.assertTrue(all(one is two for one, two in zip(settings, lists)))
                self.assertEqual(statement, ("if", "a", ("and", "b", "c")))
                self.assertEqual(other, ("or", "d", ("not", "a")))
                self.assertIsNot(got, settings)
                self.assertEqual(told_with(statement, other, letter, value, settings), got)


class ToldWithBounds(Told):
    def test_deep_statements(self):
        for depth in [110, 111, 130]:
            for side in ["left", "right"]:
                deep = samples.chain(depth, side, "a")
                settings = [["b"], ["a", "b"], ["a"], []]
                self.assert_told(told_with(deep, "b", "a", True, settings), [True, True, False, False])
                self.assert_told(told_with(deep, "b", "a", False, settings), [False] * 4)
                self.assert_told(told_with("b", deep, "b", True, settings), [False, True, False, False])

    def test_a_thousand_letters(self):
        wide = samples.balanced(["a", "b", "c", "d"] * 250, "and")
        settings = [["b", "c", "d"], ["a", "b", "c", "d"], ["c", "d"], []]
        self.assert_told(told_with(wide, "c", "a", True, settings), [True, True, False, False])
        self.assert_told(told_with("d", wide, "d", True, settings), [False, True, False, False])


if __name__ == "__main__":
    unittest.main()
