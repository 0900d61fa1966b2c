import copy
import unittest

import samples
from forkform.forks import forked


def letters_of(form):
    """The letters of all forks in a form."""
    if isinstance(form, bool):
        return []
    return [form[0]] + letters_of(form[1]) + letters_of(form[2])


class Forms(unittest.TestCase):
    def assert_is_form(self, form, about):
        """Points 5 and 6, but for where the form ends."""
        if form is True or form is False:
            return
        self.assertIs(type(form), tuple, about)
        self.assertEqual(len(form), 3, about)
        letter, so, other = form
        self.assertIs(type(letter), str, about)
        self.assertIn(letter, samples.LETTERS, about)
        for side in [so, other]:
            self.assert_is_form(side, about)
            for inner in letters_of(side):
                self.assertLess(samples.LETTERS.index(letter), samples.LETTERS.index(inner), about)
        self.assertNotEqual(so, other, about)

    def assert_ends(self, form, holding, about):
        for setting in samples.all_settings():
            self.assertIs(samples.path(form, setting)[1], setting in holding, (about, setting))

    def assert_form(self, statement):
        form = forked(statement)
        self.assert_is_form(form, statement)
        self.assert_ends(form, [one for one in samples.all_settings() if samples.expected(statement, one)], statement)
        return form


class Forked(Forms):
    def test_the_examples(self):
        self.assertEqual(forked("c"), ("c", True, False))
        self.assertEqual(forked(("not", "c")), ("c", False, True))
        self.assertEqual(forked(("and", "b", "a")), ("a", ("b", True, False), False))
        self.assertIs(forked(("or", "a", ("not", "a"))), True)

    def test_each_letter(self):
        for letter in samples.LETTERS:
            self.assertEqual(forked(letter), (letter, True, False))
            self.assertEqual(forked(("not", letter)), (letter, False, True))
            self.assertIs(forked(("or", letter, ("not", letter))), True)
            self.assertIs(forked(("and", letter, ("not", letter))), False)
            for word in ["and", "or"]:
                self.assertEqual(forked((word, letter, letter)), (letter, True, False))
            self.assertIs(forked(("if", letter, letter)), True)

    def test_more_letters(self):
        self.assertEqual(forked(("or", "d", "b")), ("b", True, ("d", True, False)))
        self.assertEqual(forked(("if", "b", "c")), ("b", ("c", True, False), True))
        self.assertEqual(forked(("if", "c", "b")), ("b", True, ("c", False, True)))
        self.assertEqual(forked(("and", ("if", "a", "d"), ("if", "d", "a"))),
                         ("a", ("d", True, False), ("d", False, True)))
        self.assertEqual(forked(("and", ("or", "a", "b"), ("or", "c", "d"))),
                         ("a", ("c", True, ("d", True, False)), ("b", ("c", True, ("d", True, False)), False)))
        self.assertEqual(forked(("if", ("and", "d", "c"), ("and", "b", "a"))),
                         ("a", ("b", True, ("c", ("d", False, True), True)), ("c", ("d", False, True), True)))

    def test_a_letter_that_makes_no_difference_is_not_asked(self):
        for letter in ["a", "b", "d"]:
            self.assertEqual(forked(("and", "c", ("or", letter, ("not", letter)))), ("c", True, False))
            self.assertEqual(forked(("or", ("and", "c", letter), ("and", "c", ("not", letter)))), ("c", True, False))
        self.assertEqual(forked(("or", "a", ("and", ("not", "a"), "d"))), ("a", True, ("d", True, False)))

    def test_few_tuples_and_the_same_form_just_at_the_same_settings(self):
        settings = samples.all_settings()
        by_table = {}
        for statement in samples.one_deeper(samples.simple_statements()):
            form = self.assert_form(statement)
            table = tuple(samples.expected(statement, setting) for setting in settings)
            self.assertEqual(by_table.setdefault(table, form), form, statement)
        self.assertEqual(len(set(by_table.values())), len(by_table))

    def test_every_table_over_three_letters(self):
        for three, holding in samples.over_three_letters():
            form = forked(samples.just_at_each(holding))
            self.assert_is_form(form, holding)
            self.assert_ends(form, holding, holding)
            self.assertTrue(set(letters_of(form)) <= set(three), holding)

    def test_tables_over_four_letters(self):
        for holding in samples.tables(512):
            form = forked(samples.just_at_each(holding))
            self.assert_is_form(form, holding)
            self.assert_ends(form, holding, holding)

    def test_nothing_is_changed(self):
        statements = samples.simple_statements()
        kept = copy.deepcopy(statements)
        first = [forked(statement) for statement in statements]
        again = [forked(statement) for statement in reversed(statements)]
        self.assertEqual(statements, kept)
        self.assertEqual(again[::-1], first)


class Bounds(Forms):
    def test_deep_and_long_statements(self):
        for statement in samples.deep_statements():
            self.assert_form(statement)

    def test_the_innermost_letter_counts(self):
        for depth in [110, 130]:
            self.assertEqual(forked(samples.nots(depth, "d")), ("d", True, False))
            self.assertEqual(forked(samples.nots(depth + 1, "d")), ("d", False, True))
            for side in ["left", "right"]:
                self.assertEqual(forked(samples.chain(depth, side, "a")), ("a", ("b", True, False), False))
        self.assertEqual(forked(samples.thousand_at_full_depth("b")), ("a", ("b", True, False), False))


if __name__ == "__main__":
    unittest.main()
