"""Programs, told as texts."""

from lawsleft.expressions import COMPARISONS
from lawsleft.programs import made_program

SIGNS = {"add": " + ", "sub": " - ", "mul": " * ", "eq": " = ", "less": " < ", "and": " and ", "or": " or "}
NUMBER_LEVELS = {"add": 1, "sub": 1, "mul": 2, "num": 3, "cell": 3}
TEST_LEVELS = {"or": 1, "and": 2, "not": 3, "eq": 4, "less": 4}


def print_program(ground, program):
    """Return the text of a program."""
    made_program(ground, program)
    return body_text(program)


def body_text(body):
    """Return the text of a body."""
    return "; ".join([statement_text(statement) for statement in body])


def block_text(body):
    """Return the text of a body in braces."""
    return "{ " + body_text(body) + " }" if body else "{}"


def statement_text(statement):
    """Return the text of a statement."""
    word = statement[0]
    if word == "set":
        return set_text(statement[1], statement[2])
    if word == "do":
        return statement[1] if statement[2] == 1 else statement[1] + " " + str(statement[2])
    if word == "exit":
        return "exit " + statement[1]
    if word == "catch":
        blocks = [block_text(statement[1])] + [name + " " + block_text(body) for name, body in statement[2]]
        return "catch " + " ".join(blocks)
    told = word + " " + test_text(statement[1]) + " " + block_text(statement[2])
    if word == "if" and statement[3]:
        return told + " else " + block_text(statement[3])
    return told


def set_text(cell, expression):
    """Return the text by which a cell gets a number."""
    return cell + " := " + number_text(expression)


def number_text(expression):
    """Return the text of a number E."""
    word = expression[0]
    if word == "num":
        return str(expression[1])
    if word == "cell":
        return expression[1]
    level = NUMBER_LEVELS[word]
    left = number_from(level, expression[1])
    return left + SIGNS[word] + number_from(level + 1, expression[2])


def number_from(level, expression):
    """Return the text of a number where those of lower levels stand in brackets."""
    told = number_text(expression)
    return "(" + told + ")" if NUMBER_LEVELS[expression[0]] < level else told


def test_text(test):
    """Return the text of a test T."""
    word = test[0]
    level = TEST_LEVELS[word]
    if word in COMPARISONS:
        return number_text(test[1]) + SIGNS[word] + number_text(test[2])
    if word == "not":
        return "not " + test_from(level, test[1])
    return test_from(level, test[1]) + SIGNS[word] + test_from(level + 1, test[2])


def test_from(level, test):
    """Return the text of a test where those of lower levels stand in brackets."""
    told = test_text(test)
    return "[" + told + "]" if TEST_LEVELS[test[0]] < level else told
