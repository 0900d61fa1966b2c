"""Where a statement holds: points 3 and 4."""

from forkform.statements import LETTERS


def told_at(statement, settings):
    """For each setting True where the statement holds at it, else False."""
    steps = steps_of(statement)
    return [holds(steps, setting) for setting in settings]


def told_with(statement, other, letter, value, settings):
    """For each setting True where other holds at it and the statement holds with the letter put to value."""
    put = [with_letter(setting, letter, value) for setting in settings]
    return [first and second for first, second in zip(told_at(statement, put), told_at(other, settings))]


def every_setting():
    """The 16 settings, made anew; of two of them that one comes first which has the first letter they differ in."""
    settings = [[]]
    for letter in reversed(LETTERS):
        settings = [[letter] + setting for setting in settings] + settings
    return settings


def told_everywhere(statement):
    """For each of the 16 settings, in the order of every_setting, True where the statement holds at it, else False."""
    return told_at(statement, every_setting())


def with_letter(setting, letter, value):
    """A new setting that has the letter just where value is True, and is else like the one given."""
    letters = [one for one in setting if one != letter]
    if value:
        letters.append(letter)
    return letters


def steps_of(statement):
    """The letters and words of a statement in a list, each word behind all of its parts, the left part first."""
    # Kept in lists, not done by recursion: depth then has no bound of its own.
    waiting = [statement]
    steps = []
    while len(waiting) > 0:
        part = waiting.pop()
        if isinstance(part, tuple):
            steps.append(part[0])
            waiting.extend(part[1:])
        else:
            steps.append(part)
    # The walk meets a word ahead of its parts and the right part ahead of the left one.
    return list(reversed(steps))


def holds(steps, setting):
    """True where the statement with these steps holds at the setting, else False."""
    told = []
    for step in steps:
        if step in LETTERS:
            told.append(step in setting)
        elif step == "not":
            told.append(not told.pop())
        else:
            right = told.pop()
            left = told.pop()
            told.append(joined(step, left, right))
    return told.pop()


def joined(word, left, right):
    """Whether two parts joined by the word hold, where it is told whether each of them does."""
    if word == "and":
        return left and right
    if word == "or":
        return left or right
    return not left or right
