"""The form of a statement: points 5 and 6."""

from forkform.statements import LETTERS
from forkform.telling import told_everywhere


def forked(statement):
    """The form of a statement: True, False or a fork (letter, so, other)."""
    # Settings that differ in the last letter alone stand side by side, so the forks are built from the inside out.
    forms = told_everywhere(statement)
    for letter in reversed(LETTERS):
        forms = forks_over(letter, forms)
    return forms[0]


def forks_over(letter, forms):
    """Half as many forms: each asks the letter, and then goes on to the one or the other of two neighbours."""
    return [fork_of(letter, forms[place], forms[place + 1]) for place in range(0, len(forms), 2)]


def fork_of(letter, so, other):
    """The fork of a letter and two forms; where these are the same, that form, as the letter needn't be asked."""
    if so == other:
        return so
    return (letter, so, other)
