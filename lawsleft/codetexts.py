"""Codes, told as texts."""

from lawsleft.machine import ask_code
from lawsleft.printprograms import set_text, test_text


def print_code(ground, code):
    """Return the text of a code."""
    ask_code(ground, code)
    return " / ".join([row_text(row) for row in code])


def row_text(row):
    """Return the text of a row of a code."""
    word = row[0]
    if word == "set":
        return "set " + set_text(row[1], row[2])
    if word == "branch":
        return "branch " + test_text(row[1]) + " " + str(row[2])
    if word == "switch":
        return " ".join(["switch", row[1]] + [str(number) for number in row[2]])
    return " ".join([str(part) for part in row])
