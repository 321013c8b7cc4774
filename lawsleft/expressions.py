"""Numbers and tests of programs: their form, and what they are where cells have values."""

from lawsleft.grounds import is_number

DEEPEST = 6
GREATEST_NUM = 99
SUMS = ("add", "sub", "mul")
COMPARISONS = ("eq", "less")
JOINTS = ("and", "or")


def is_expression(names, thing):
    """Whether thing is a number E over cells of these names."""
    return is_expression_within(names, thing, DEEPEST)


def is_expression_within(names, thing, room):
    """Whether thing is a number E over cells of these names that is at most room deep."""
    if room == 0 or not isinstance(thing, tuple):
        return False
    if len(thing) == 2:
        word, part = thing
        if word == "num":
            return is_number(part) and 0 <= part <= GREATEST_NUM
        return word == "cell" and part in names
    if len(thing) != 3 or thing[0] not in SUMS:
        return False
    return is_expression_within(names, thing[1], room - 1) and is_expression_within(names, thing[2], room - 1)


def is_test(names, thing):
    """Whether thing is a test T over cells of these names."""
    return is_test_within(names, thing, DEEPEST)


def is_test_within(names, thing, room):
    """Whether thing is a test T over cells of these names that is at most room deep."""
    if room == 0 or not isinstance(thing, tuple):
        return False
    if len(thing) == 2:
        return thing[0] == "not" and is_test_within(names, thing[1], room - 1)
    if len(thing) != 3:
        return False
    word, left, right = thing
    if word in COMPARISONS:
        return is_expression(names, left) and is_expression(names, right)
    return word in JOINTS and is_test_within(names, left, room - 1) and is_test_within(names, right, room - 1)


def number_told(expression, values):
    """Return what a number E is where the cells have these values, a dict by names."""
    word = expression[0]
    if word == "num":
        return expression[1]
    if word == "cell":
        return values[expression[1]]
    left = number_told(expression[1], values)
    right = number_told(expression[2], values)
    if word == "add":
        return left + right
    if word == "sub":
        return left - right
    return left * right


def test_holds(test, values):
    """Whether a test T holds where the cells have these values, a dict by names."""
    word = test[0]
    if word == "eq":
        return number_told(test[1], values) == number_told(test[2], values)
    if word == "less":
        return number_told(test[1], values) < number_told(test[2], values)
    if word == "not":
        return not test_holds(test[1], values)
    if word == "and":
        return test_holds(test[1], values) and test_holds(test[2], values)
    return test_holds(test[1], values) or test_holds(test[2], values)
