"""Statements, settings and a second, plainer telling of point 4, for the tests."""

from itertools import combinations, permutations

LETTERS = ["a", "b", "c", "d"]
WORDS = ["and", "or", "if"]
EVERYWHERE = ("or", "a", ("not", "a"))
NOWHERE = ("and", "a", ("not", "a"))


def all_settings():
    """The 16 settings, their letters in order."""
    return [list(some) for size in range(5) for some in combinations(LETTERS, size)]


def all_orders():
    """Every setting in every order of its letters."""
    return [list(order) for setting in all_settings() for order in permutations(setting)]


def expected(statement, setting):
    """Point 4, read straight off."""
    if isinstance(statement, str):
        return setting.count(statement) == 1
    if statement[0] == "not":
        return expected(statement[1], setting) is False
    both = (expected(statement[1], setting), expected(statement[2], setting))
    if statement[0] == "and":
        return both == (True, True)
    if statement[0] == "or":
        return both != (False, False)
    return both != (True, False)


def one_deeper(statements):
    """The statements, and all that one word makes of them."""
    made = list(statements)
    made.extend(("not", s) for s in statements)
    made.extend((word, s, t) for word in WORDS for s in statements for t in statements)
    return made


def simple_statements():
    """All statements with at most one tuple."""
    return one_deeper(LETTERS)


def chain(depth, side, end, word="and", beside="b"):
    """A tuple with as many tuples one within the other as depth tells, to one side, and the end innermost."""
    made = end
    for step in range(depth):
        made = (word, made, beside) if side == "left" else (word, beside, made)
    return made


def nots(depth, end):
    made = end
    for step in range(depth):
        made = ("not", made)
    return made


def balanced(ends, word):
    """All the ends in their order, joined by one word with as little depth as can be."""
    if len(ends) == 1:
        return ends[0]
    middle = len(ends) // 2
    return (word, balanced(ends[:middle], word), balanced(ends[middle:], word))


def thousand_at_full_depth(end):
    """A thousand letters with a hundred and ten tuples one within the other; the end stands innermost."""
    made = end
    # The large parts stand outside, so that with them too no more than a hundred and ten lie one within the other.
    for size in [1] * 11 + [8] + [10] * 98:
        made = ("and", made, balanced(["a"] * size, "or"))
    return made


def just_at(setting):
    """A statement that holds at one setting alone."""
    return balanced([letter if letter in setting else ("not", letter) for letter in LETTERS], "and")


def just_at_each(settings):
    """A statement that holds at these settings and at no other."""
    if not settings:
        return NOWHERE
    return balanced([just_at(setting) for setting in settings], "or")


def tables(amount):
    """As many lists of settings as the amount tells, strewn over the 65536 that there are."""
    settings = all_settings()
    for step in range(amount):
        # One bit for each setting; times an odd number, so that high and low bits vary and none comes twice.
        number = step * 40503 % 2 ** 16
        yield [setting for place, setting in enumerate(settings) if number >> place & 1]


def over_three_letters():
    """For each three of the letters, every list of settings that these three alone tell apart."""
    for left_out in LETTERS:
        three = [letter for letter in LETTERS if letter != left_out]
        some = [setting for setting in all_settings() if left_out not in setting]
        for number in range(256):
            kept = [setting for place, setting in enumerate(some) if number >> place & 1]
            yield three, [setting for setting in all_settings()
                          if [one for one in setting if one != left_out] in kept]


def path(form, setting):
    """Point 5: the steps that one takes through a form at a setting, and where one comes to."""
    steps = []
    while isinstance(form, tuple):
        value = form[0] in setting
        steps.append((form[0], value))
        form = form[1] if value else form[2]
    return steps, form


def deep_statements():
    """Statements at the bounds of point 2 and somewhat beyond them."""
    for depth in [109, 110, 111, 130]:
        yield nots(depth, "a")
        for side in ["left", "right"]:
            for word in WORDS:
                yield chain(depth, side, "a", word)
                yield chain(depth, side, ("if", "c", "a"), word, ("not", "d"))
    for amount in [1000, 1020]:
        letters = [LETTERS[place % 4] for place in range(amount)]
        for word in WORDS:
            yield balanced(letters, word)
    yield thousand_at_full_depth("b")
