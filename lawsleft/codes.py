"""Codes: their form, the code of a diagram and of a program under a book, and a program as rows as it stands."""

from lawsleft.cheapest import plain_form
from lawsleft.diagrams import LEAF, TEST, diagram_of, nodes
from lawsleft.expressions import is_expression, is_test
from lawsleft.grounds import is_ground, is_number, is_place_in, made_ground
from lawsleft.programs import PLAIN, bodies, made_program, names_of

MOST_ROWS = 2000
LAST_WORDS = ("switch", "jump", "exit")


def is_code(ground, code):
    """Whether ground is a ground and code a code for it."""
    if not is_ground(ground) or not isinstance(code, tuple) or not 1 <= len(code) <= MOST_ROWS:
        return False
    for row in code:
        if not is_row_of_code(ground, len(code), row):
            return False
    return code[-1][0] in LAST_WORDS


def is_row_of_code(ground, many, thing):
    """Whether thing is a row of a code of so many rows."""
    if not isinstance(thing, tuple) or not thing or not isinstance(thing[0], str):
        return False
    form = FORMS.get(thing[0])
    return form is not None and form(ground, many, thing)


def is_set_row(ground, many, thing):
    """Whether thing is a right set, whatever the number of rows is."""
    cells = names_of(ground[0])
    return len(thing) == 3 and thing[1] in cells and is_expression(cells, thing[2])


def is_deed_row(ground, many, thing):
    """Whether thing is a right deed, whatever the number of rows is."""
    return len(thing) == 3 and thing[1] in names_of(ground[1]) and is_number(thing[2]) and thing[2] >= 1


def is_branch_row(ground, many, thing):
    """Whether thing is a right branch."""
    return len(thing) == 3 and is_test(names_of(ground[0]), thing[1]) and is_place_in(many, thing[2])


def is_switch_row(ground, many, thing):
    """Whether thing is a right switch."""
    if len(thing) != 3 or not isinstance(thing[2], tuple) or thing[1] not in names_of(ground[0]):
        return False
    size = dict(ground[0])[thing[1]]
    return len(thing[2]) == size and all([is_place_in(many, number) for number in thing[2]])


def is_jump_row(ground, many, thing):
    """Whether thing is a right jump."""
    return len(thing) == 2 and is_place_in(many, thing[1])


def is_exit_row(ground, many, thing):
    """Whether thing is a right exit, whatever the number of rows is."""
    return len(thing) == 2 and thing[1] in ground[2]


FORMS = {
    "set": is_set_row,
    "deed": is_deed_row,
    "branch": is_branch_row,
    "switch": is_switch_row,
    "jump": is_jump_row,
    "exit": is_exit_row,
}


def code_of(ground, diagram):
    """Return the code of a diagram."""
    made_ground(ground)
    parts = nodes(diagram)
    starts, many = [], 0
    for part in parts:
        starts.append(many)
        many += len(rows_of_leaf(ground, part)) if part[0] == LEAF else 1
    rows = []
    for part, start in zip(parts, starts):
        if part[0] == LEAF:
            rows.extend(rows_of_leaf(ground, part))
        elif part[0] == TEST:
            rows.append(("switch", ground[0][part[1]][0], tuple([starts[parts.index(other)] for other in part[2]])))
        else:
            rows.append(("jump", start))
    return tuple(rows)


def rows_of_leaf(ground, part):
    """Return the rows of a leaf at which the program ends."""
    _, count, moves, leaving = part
    rows = [("deed", kind, n) for (kind, _), n in zip(ground[1], count) if n > 0]
    for (cell, _), move in zip(ground[0], moves):
        if move is not None:
            rows.append(("set", cell, ("num", move)))
    return rows + [("exit", ground[2][leaving])]


def code(book, program):
    """Return the cheapest code that is alike to a program under a book."""
    plain = plain_form(book, program)
    return code_of(book[0], diagram_of(book[0], plain))


def plain_code(ground, program):
    """Return a program as rows, as it stands."""
    made_program(ground, program)
    plain = ground[2][PLAIN]
    return tuple(body_as_rows(plain, program, 0, {})) + (("exit", plain),)


def body_as_rows(plain, body, first, takers):
    """Return the rows of a body, the first of which has this number.

    takers tell for each exit that a catch takes where the rows of its pair begin; plain is the plain exit.
    """
    rows = []
    for statement in body:
        rows.extend(statement_as_rows(plain, statement, first + len(rows), takers))
    return rows


def statement_as_rows(plain, statement, first, takers):
    """Return the rows of a statement."""
    word = statement[0]
    if word == "do":
        return [("deed", statement[1], statement[2])]
    if word == "if":
        return if_as_rows(plain, statement, first, takers)
    if word == "while":
        rows = body_as_rows(plain, statement[2], first + 1, takers)
        return [("branch", statement[1], first + len(rows) + 2)] + rows + [("jump", first)]
    if word == "catch":
        return catch_as_rows(plain, statement, first, takers)
    if word == "exit" and statement[1] in takers:
        return [("jump", takers[statement[1]])]
    return [statement]


def if_as_rows(plain, statement, first, takers):
    """Return the rows of an if."""
    ones = body_as_rows(plain, statement[2], first + 1, takers)
    second = first + len(ones) + 2
    twos = body_as_rows(plain, statement[3], second, takers)
    return [("branch", statement[1], second)] + ones + [("jump", second + len(twos))] + twos


def catch_as_rows(plain, statement, first, takers):
    """Return the rows of a catch; its pairs take exits of its first body alone."""
    _, body, pairs = statement
    starts = {}
    behind = first + many_rows(body) + 1
    for name, other in pairs:
        starts[name] = behind
        behind += many_rows(other) + 1
    rows = body_as_rows(plain, body, first, {**takers, **starts})
    rows.append(("jump", starts.get(plain, behind)))
    for name, other in pairs:
        rows.extend(body_as_rows(plain, other, starts[name], takers))
        rows.append(("jump", behind))
    return rows


def many_rows(body):
    """Return how many rows a body has."""
    return sum([many_own_rows(statement) + sum([many_rows(part) for part in bodies(statement)]) for statement in body])


def many_own_rows(statement):
    """Return how many rows a statement has beside those of its bodies."""
    if statement[0] == "catch":
        return 1 + len(statement[2])
    return 2 if statement[0] in ("if", "while") else 1
