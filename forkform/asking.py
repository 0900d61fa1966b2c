"""What can be asked of statements: the ways of their forms, point 7, and the settings at which they hold."""

from forkform.forks import forked
from forkform.telling import every_setting, told_everywhere


def ways(statement):
    """The ways of the statement's form, those by a fork's so ahead of those by its other."""
    return ways_of(forked(statement))


def ways_of(form):
    """The ways of a form; no more than four forks lie one within the other, so recursion stays shallow."""
    if form is True:
        return [[]]
    if form is False:
        return []
    return ways_on(form[0], True, form[1]) + ways_on(form[0], False, form[2])


def ways_on(letter, value, form):
    """The ways of a form, each with the step ahead of it that leads there."""
    return [[(letter, value)] + way for way in ways_of(form)]


def always(statement):
    """True where the statement holds at every setting, else False."""
    return all(told_everywhere(statement))


def same(one, other):
    """True where the two statements hold at the same settings, else False."""
    return told_everywhere(one) == told_everywhere(other)


def example(statement):
    """A setting at which the statement holds, or None where there is none."""
    for setting, told in zip(every_setting(), told_everywhere(statement)):
        if told:
            return setting
    return None


def count(statement):
    """At how many of the 16 settings the statement holds."""
    return told_everywhere(statement).count(True)
