"""What a statement is: point 2."""

LETTERS = ("a", "b", "c", "d")

# Each word with the length of a tuple that begins with it.
SHAPES = (("not", 2), ("and", 3), ("or", 3), ("if", 3))


def is_statement(thing):
    """True where the thing is a statement, else False."""
    # A list of what is still to be looked at, not recursion: depth then has no bound of its own.
    waiting = [thing]
    while len(waiting) > 0:
        part = waiting.pop()
        if part in LETTERS:
            continue
        if not has_shape(part):
            return False
        waiting.extend(part[1:])
    return True


def has_shape(thing):
    """True where the thing is a tuple of a word and as many parts as the word asks for, whatever these are."""
    if not isinstance(thing, tuple) or len(thing) == 0:
        return False
    return (thing[0], len(thing)) in SHAPES
