"""Questions: which are good ones, and what answers them."""

from tightrows.errors import BadQuestion
from tightrows.packings import is_whole

MOST_WITHIN = 6
# How many parts each has, the word ahead of them counted.
JOINING = {"not": 2, "both": 3, "either": 3}
SIMPLE = {"all": 1, "none": 1, "is": 2, "below": 2, "above": 2, "among": 2}


def is_joined(asked):
    return asked[0] in JOINING


def check_within(asked, depth, check_simple):
    # From the front on, so that of several faults the one that stands first is told.
    if depth > MOST_WITHIN:
        raise BadQuestion("more than 6 within one another")
    if not isinstance(asked, tuple) or len(asked) == 0 or not isinstance(asked[0], str):
        raise BadQuestion("no question at all")
    if not is_joined(asked):
        check_simple(asked)
    elif len(asked) != JOINING[asked[0]]:
        raise BadQuestion("a part too few or too many")
    else:
        for part in asked[1:]:
            check_within(part, depth + 1, check_simple)


def check_joined(asked, check_simple):
    check_within(asked, 1, check_simple)


def things_named(simple):
    if simple[0] == "among":
        if not isinstance(simple[1], list):
            raise BadQuestion("among is of a list")
        return simple[1]
    return simple[1:]


def check_simple_of(simple, is_good):
    if simple[0] not in SIMPLE or len(simple) != SIMPLE[simple[0]]:
        raise BadQuestion("there is no such question")
    if not all([is_good(thing) for thing in things_named(simple)]):
        raise BadQuestion("not what such a question may name")


def check_question_of(question, is_good):
    check_joined(question, lambda simple: check_simple_of(simple, is_good))


def check_question(question):
    check_question_of(question, is_whole)


def answers(simple, value):
    if simple[0] == "all":
        return True
    if simple[0] == "none":
        return value is None
    if value is None:
        return False
    if simple[0] == "is":
        return value == simple[1]
    if simple[0] == "below":
        return value < simple[1]
    if simple[0] == "above":
        return value > simple[1]
    return value in simple[1]


def marked(asked, marks_of):
    # Marks, a truth for each one that is asked, so that columns and tables join them alike.
    if not is_joined(asked):
        return marks_of(asked)
    parts = [marked(part, marks_of) for part in asked[1:]]
    if asked[0] == "not":
        return [not mark for mark in parts[0]]
    if asked[0] == "both":
        return [one and other for one, other in zip(parts[0], parts[1])]
    return [one or other for one, other in zip(parts[0], parts[1])]


def marked_values(question, values):
    # Like values are asked once, as runs and books keep them once.
    each = list(dict([(value, True) for value in values]))
    marks = marked(question, lambda simple: [answers(simple, value) for value in each])
    found = dict(zip(each, marks))
    return [found[value] for value in values]
