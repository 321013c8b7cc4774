"""Programs: their form and limits, and programs put for exits."""

from lawsleft.errors import BadProgram, BadPuts, Refused, TooMany
from lawsleft.expressions import is_expression, is_test
from lawsleft.grounds import is_number, made_ground

MOST_IN_BODY = 40
MOST_IN_PROGRAM = 120
DEEPEST_BODY = 12
MOST_PAIRS = 4
MOST_DEEDS = 9
PLAIN = 0


def made_program(ground, thing):
    """Return thing if it is a program of the ground, else raise the first error met in it."""
    made_ground(ground)
    if not has_body_form(thing):
        raise BadProgram((-1,))
    waiting = standing_in(thing, (), 1)[::-1]
    met = 0
    while waiting:
        statement, place, depth = waiting.pop()
        met += 1
        if met > MOST_IN_PROGRAM:
            raise TooMany(met)
        if not is_statement_at(ground, statement, depth):
            raise BadProgram(place)
        further = []
        for number, body in enumerate(bodies(statement)):
            further.extend(standing_in(body, place + (number,), depth + 1))
        # What is met first is taken from the end.
        waiting.extend(further[::-1])
    return thing


def is_program(ground, thing):
    """Whether ground is a ground and thing a program of it."""
    try:
        made_program(ground, thing)
    except Refused:
        return False
    return True


def has_body_form(thing):
    """Whether thing may be a body, whatever stands in it."""
    return isinstance(thing, tuple) and len(thing) <= MOST_IN_BODY


def standing_in(body, place, depth):
    """Return the statements of a body that lies so deep, each with its place and this depth."""
    return [(statement, place + (index,), depth) for index, statement in enumerate(body)]


def bodies(statement):
    """Return the bodies of a statement, by their numbers."""
    word = statement[0]
    if word == "if":
        return statement[2:]
    if word == "while":
        return (statement[2],)
    if word == "catch":
        return (statement[1],) + tuple(body for _, body in statement[2])
    return ()


def is_statement_at(ground, thing, depth):
    """Whether thing is a statement, by itself, of a body that lies so deep; its bodies are not looked into."""
    if not isinstance(thing, tuple) or not thing or not isinstance(thing[0], str):
        return False
    form = FORMS.get(thing[0])
    if form is None or not form(ground, thing):
        return False
    return depth < DEEPEST_BODY or not bodies(thing)


def has_set_form(ground, thing):
    """Whether thing is a right set."""
    cells = names_of(ground[0])
    return len(thing) == 3 and thing[1] in cells and is_expression(cells, thing[2])


def has_do_form(ground, thing):
    """Whether thing is a right do."""
    if len(thing) != 3 or thing[1] not in names_of(ground[1]):
        return False
    return is_number(thing[2]) and 1 <= thing[2] <= MOST_DEEDS


def has_if_form(ground, thing):
    """Whether thing is a right if, whatever stands in its bodies."""
    if len(thing) != 4 or not is_test(names_of(ground[0]), thing[1]):
        return False
    return has_body_form(thing[2]) and has_body_form(thing[3])


def has_while_form(ground, thing):
    """Whether thing is a right while, whatever stands in its body."""
    return len(thing) == 3 and is_test(names_of(ground[0]), thing[1]) and has_body_form(thing[2])


def has_exit_form(ground, thing):
    """Whether thing is a right exit."""
    return len(thing) == 2 and thing[1] in ground[2] and thing[1] != ground[2][PLAIN]


def has_catch_form(ground, thing):
    """Whether thing is a right catch, whatever stands in its bodies."""
    return len(thing) == 3 and has_body_form(thing[1]) and has_pairs_form(ground, thing[2])


def has_pairs_form(ground, thing):
    """Whether thing may be the pairs of a catch, whatever stands in their bodies."""
    if not isinstance(thing, tuple) or len(thing) > MOST_PAIRS:
        return False
    ahead = []
    for pair in thing:
        if not isinstance(pair, tuple) or len(pair) != 2 or not has_body_form(pair[1]):
            return False
        if pair[0] not in ground[2] or pair[0] in ahead:
            return False
        ahead.append(pair[0])
    return True


def names_of(entries):
    """Return the names of the cells or the kinds of a ground."""
    return tuple(name for name, _ in entries)


FORMS = {
    "set": has_set_form,
    "do": has_do_form,
    "if": has_if_form,
    "while": has_while_form,
    "exit": has_exit_form,
    "catch": has_catch_form,
}


def placed(ground, program, puts):
    """Return the program that goes on with a body of puts where program leaves by the exit of that body."""
    made_program(ground, program)
    if not are_puts(ground, puts):
        raise BadPuts(0)
    whole = (("catch", program, puts),)
    if not is_program(ground, whole):
        raise BadPuts(1)
    return whole


def are_puts(ground, thing):
    """Whether thing are pairs of an exit and a program each, of what surely is a ground."""
    return has_pairs_form(ground, thing) and all([is_program(ground, body) for _, body in thing])
