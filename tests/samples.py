"""Statements, settings and a second, plainer telling of point 4, for the tests."""

from itertools import combinations, permutations

LETTERS = ["a", "b", "c", "d"]
WORDS = ["and", "or", "if"]


def all_settings():
    """The 16 settings, their letters in order."""
    return [list(some) for size in range(5) for some in combinations(LETTERS, size)]


def all_orders():
    """Every setting in every order of its letters."""
    return [list(order) for setting in all_settings() for order in permutations(setting)]


def expected(statement, setting):
    """Point 4, read straight off."""
    if isinstance(statement, str):
        return setting.count(statement) == 1
    if statement[0] == "not":
        return expected(statement[1], setting) is False
    both = (expected(statement[1], setting), expected(statement[2], setting))
    if statement[0] == "and":
        return both == (True, True)
    if statement[0] == "or":
        return both != (False, False)
    return both != (True, False)


def one_deeper(statements):
    """The statements, and all that one word makes of them."""
    made = list(statements)
    made.extend(("not", s) for s in statements)
    made.extend((word, s, t) for word in WORDS for s in statements for t in statements)
    return made


def simple_statements():
    """All statements with at most one tuple."""
    return one_deeper(LETTERS)


def chain(depth, side, end, word="and", beside="b"):
    """A tuple with as many tuples one within the other as depth tells, to one side, and the end innermost."""
    made = end
    for step in range(depth):
        made = (word, made, beside) if side == "left" else (word, beside, made)
    return made


def nots(depth, end):
    made = end
    for step in range(depth):
        made = ("not", made)
    return made


def balanced(ends, word):
    """All the ends in their order, joined by one word with as little depth as can be."""
    if len(ends) == 1:
        return ends[0]
    middle = len(ends) // 2
    return (word, balanced(ends[:middle], word), balanced(ends[middle:], word))


def thousand_at_full_depth(end):
    """A thousand letters with a hundred and ten tuples one within the other; the end stands innermost."""
    made = end
    # The large parts stand outside, so that with them too no more than a hundred and ten lie one within the other.
    for size in [1] * 11 + [8] + [10] * 98:
        made = ("and", made, balanced(["a"] * size, "or"))
    return made
