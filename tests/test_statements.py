import unittest

import samples
from forkform.statements import is_statement

NO_STATEMENTS = [
    "", "e", "A", "ab", "a ", " a", "abcd", "not", "and", "or", "if", "True", "0",
    0, 1, 2, -1, 97, 10 ** 30,
    (), ("",), ((),), (0,),
    ("a",), ("b", "a"), ("a", "b", "c"),
    ("not",), ("not", "a", "b"), ("not", "a", "b", "c"),
    ("and",), ("and", "a"), ("and", "a", "b", "c"),
    ("or",), ("or", "a"), ("or", "a", "b", "c"),
    ("if",), ("if", "a"), ("if", "a", "b", "c"),
    ("", "a"), ("", "a", "b"), ("Not", "a"), ("AND", "a", "b"), ("nand", "a", "b"), ("xor", "a", "b"),
    ("iff", "a", "b"), ("not ", "a"), ("an", "a", "b"), ("then", "a", "b"),
    (("not",), "a"), (("and",), "a", "b"), (("not", "a"), "a"), (("and", "a", "b"), "a", "b"), ((), "a"),
    ((), "a", "b"), (1, "a"), (0, "a", "b"), (2, "a", "b"), (3, "a", "b"),
    ("a", "and", "b"), ("a", "b", "and"), ("a", "not"),
    ("not", "not"), ("not", "e"), ("not", ""), ("not", 1), ("not", ()), ("and", "a", 0), ("and", 0, "a"),
    ("or", "a", ()), ("or", (), "a"), ("if", "a", ""), ("if", "", "a"), ("if", "if", "a"), ("and", "a", "and"),
]


class Statements(unittest.TestCase):
    def test_letters(self):
        for letter in samples.LETTERS:
            self.assertIs(is_statement(letter), True, letter)

    def test_each_word_over_each_letter(self):
        for statement in samples.simple_statements():
            self.assertIs(is_statement(statement), True, statement)

    def test_two_words_deep(self):
        for statement in samples.one_deeper(samples.simple_statements()):
            self.assertIs(is_statement(statement), True, statement)

    def test_the_same_part_more_than_once(self):
        part = ("if", "a", "b")
        self.assertIs(is_statement(("and", part, ("or", part, part))), True)


class NoStatements(unittest.TestCase):
    def test_by_itself(self):
        for thing in NO_STATEMENTS:
            self.assertIs(is_statement(thing), False, thing)

    def test_within_each_word(self):
        for thing in NO_STATEMENTS:
            self.assertIs(is_statement(("not", thing)), False, thing)
            for word in samples.WORDS:
                self.assertIs(is_statement((word, thing, "a")), False, thing)
                self.assertIs(is_statement((word, "a", thing)), False, thing)

    def test_deep_at_the_left_and_at_the_right(self):
        for thing in NO_STATEMENTS:
            for side in ["left", "right"]:
                for word in samples.WORDS:
                    for beside in ["d", ("not", "c"), ("and", "a", "b")]:
                        whole = samples.chain(7, side, thing, word, beside)
                        self.assertIs(is_statement(whole), False, whole)
            self.assertIs(is_statement(samples.nots(7, thing)), False, thing)

    def test_deep_with_the_fault_in_a_branch(self):
        for thing in NO_STATEMENTS:
            for place in range(16):
                ends = ["a"] * 16
                ends[place] = thing
                self.assertIs(is_statement(samples.balanced(ends, "or")), False, (thing, place))


class Bounds(unittest.TestCase):
    def test_a_hundred_and_ten_tuples_and_somewhat_more(self):
        for depth in [109, 110, 111, 130]:
            self.assertIs(is_statement(samples.nots(depth, "a")), True)
            for side in ["left", "right"]:
                for word in samples.WORDS:
                    self.assertIs(is_statement(samples.chain(depth, side, "a", word)), True)

    def test_a_fault_below_a_hundred_and_ten_tuples(self):
        for depth in [109, 110, 111, 130]:
            for fault in ["e", "", 0, (), ("not",), ("and", "a"), (("not",), "a")]:
                self.assertIs(is_statement(samples.nots(depth, fault)), False)
                for side in ["left", "right"]:
                    for word in samples.WORDS:
                        self.assertIs(is_statement(samples.chain(depth, side, fault, word)), False)

    def test_a_fault_above_a_hundred_and_ten_tuples(self):
        for side in ["left", "right"]:
            deep = samples.chain(110, side, "a")
            for thing in [("not", deep, "a"), ("and", deep), (deep, "a"), (deep,), ("or", deep, "e"), ("or", 0, deep)]:
                self.assertIs(is_statement(thing), False)

    def test_tuples_one_within_the_other_without_words(self):
        made = ()
        for step in range(110):
            made = (made,)
        self.assertIs(is_statement(made), False)
        self.assertIs(is_statement((made, "a")), False)

    def test_a_thousand_letters(self):
        for amount in [1000, 1020]:
            letters = [samples.LETTERS[place % 4] for place in range(amount)]
            for word in samples.WORDS:
                self.assertIs(is_statement(samples.balanced(letters, word)), True)
                for place in [0, amount // 2, amount - 1]:
                    faulty = list(letters)
                    faulty[place] = "e"
                    self.assertIs(is_statement(samples.balanced(faulty, word)), False)

    def test_a_thousand_letters_at_full_depth(self):
        self.assertIs(is_statement(samples.thousand_at_full_depth("b")), True)
        self.assertIs(is_statement(samples.thousand_at_full_depth("e")), False)

    def test_a_tuple_of_a_thousand_letters(self):
        self.assertIs(is_statement(("a",) * 1000), False)
        self.assertIs(is_statement(("and",) + ("a",) * 1000), False)


if __name__ == "__main__":
    unittest.main()
