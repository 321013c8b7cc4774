"""The optimiser: from a program's own code to its code under a book by small steps, and the judge of such roads."""

from lawsleft.alikes import count_of, worth_by
from lawsleft.cheapest import plain_outcome
from lawsleft.codes import code_of, is_code, plain_code
from lawsleft.diagrams import diagram_of
from lawsleft.facts import facts, facts_if_book
from lawsleft.grounds import is_pair, key_of
from lawsleft.machine import outcomes_of_code
from lawsleft.normals import everything_by, normal_by
from lawsleft.programs import PLAIN, is_program
from lawsleft.rules import row_of_facts
from lawsleft.tables import all_outcomes

FIRST_WORDS = ("plain", "threaded", "reached", "tabled")
TABLED = 3
CHEAPER = "cheaper"
ENDED = "ended"


def threaded(code):
    """Return a code in which nothing goes to a jump, but to where its jumps lead at last."""
    new = ends_of_jumps(code)
    return tuple([going(row, new) for row in code])


def ends_of_jumps(code):
    """Return for each row, by its number, the row to which its jumps lead at last: itself, if it is no jump."""
    ends = {}
    for number in range(len(code)):
        path, end = jumps_from(code, ends, number)
        for at in path:
            ends[at] = end
        ends[number] = end
    return ends


def jumps_from(code, ends, number):
    """Return the jumps done from a row on, as far as their ends are not yet told, and where they lead at last."""
    path = []
    met = set()
    at = number
    while at not in ends and at not in met and code[at][0] == "jump":
        met.add(at)
        path.append(at)
        at = code[at][1]
    if at in met:
        return path, min(path[path.index(at):])
    return path, ends.get(at, at)


def going(row, new):
    """Return a row that goes to new rows, which are told by the old ones."""
    if row[0] == "branch":
        return ("branch", row[1], new[row[2]])
    if row[0] == "switch":
        return ("switch", row[1], tuple([new[number] for number in row[2]]))
    if row[0] == "jump":
        return ("jump", new[row[1]])
    return row


def reached(code):
    """Return the rows of a code that can be come to from row 0."""
    met = {0: True}
    waiting = [0]
    while waiting:
        number = waiting.pop()
        for other in rows_behind(code[number], number):
            if other not in met:
                met[other] = True
                waiting.append(other)
    kept = sorted(met)
    new = {number: place for place, number in enumerate(kept)}
    return tuple([going(code[number], new) for number in kept])


def rows_behind(row, number):
    """Return the numbers of the rows that can be come to from the row of this number."""
    if row[0] == "branch":
        return (number + 1, row[2])
    if row[0] == "switch":
        return row[2]
    if row[0] == "jump":
        return (row[1],)
    return () if row[0] == "exit" else (number + 1,)


def optimised(book, program):
    """Return the road from a program's own code to its code under a book."""
    given = facts(book)
    ground = book[0]
    codes = [plain_code(ground, program)]
    codes.append(threaded(codes[0]))
    codes.append(reached(codes[1]))
    outcomes = all_outcomes(ground, program)
    codes.append(code_of_outcomes(ground, outcomes))
    row = row_of_facts(ground, given)
    return tuple(list(zip(FIRST_WORDS, codes)) + last_steps(ground, row, outcomes))


def code_of_outcomes(ground, outcomes):
    """Return the code of the diagram of outcomes of all states."""
    return code_of(ground, diagram_of(ground, outcomes))


def last_steps(ground, row, outcomes):
    """Return the steps of a road that lead from the outcomes of a program to its plain form."""
    steps = []
    so_far = outcomes
    for count in counts_with_others(ground, row, outcomes):
        so_far = with_worths(row, so_far, count)
        steps.append((CHEAPER, code_of_outcomes(ground, so_far)))
    if None in outcomes and everything_by(row) is not None:
        steps.append((ENDED, code_of_outcomes(ground, with_worths(row, so_far, None))))
    return steps


def counts_with_others(ground, row, outcomes):
    """Return the counts of outcomes that have another worth by a row, rising by their keys."""
    found = {outcome[0]: True for outcome in outcomes if outcome is not None}
    others = [key_of(ground[1], count) for count in found if normal_by(row, count) != count]
    return [count for _, count in sorted(others)]


def with_worths(row, outcomes, count):
    """Return the outcomes in which each one of this count, or each None, is made as cheap as it can be."""
    least = everything_by(row)
    return tuple([
        plain_outcome(row, least, outcome, number) if count_of(outcome) == count else outcome
        for number, outcome in enumerate(outcomes)
    ])


def road_right(book, program, road):
    """Whether road is one that leads from a program's own code to its code under a book."""
    given = facts_if_book(book)
    if given is None or not is_program(book[0], program) or not has_road_form(book[0], road):
        return False
    ground = book[0]
    if road[0][1] != plain_code(ground, program):
        return False
    tables = [outcomes_of_code(ground, code) for _, code in road]
    if any([outcomes != tables[0] for outcomes in tables[:TABLED + 1]]):
        return False
    row = row_of_facts(ground, given)
    for before, after in zip(tables[TABLED:], tables[TABLED + 1:]):
        if not all([falls(ground, row, one, two) for one, two in zip(before, after)]):
            return False
    return ends_right(ground, row, tables[-1], road[-1][1])


def has_road_form(ground, thing):
    """Whether thing is a tuple of pairs of a word and a code, with words as those of a road."""
    if not isinstance(thing, tuple) or not all([is_pair(step) for step in thing]):
        return False
    words = tuple([word for word, _ in thing])
    last = words[len(FIRST_WORDS):]
    if last and last[-1] == ENDED:
        last = last[:-1]
    if words[:len(FIRST_WORDS)] != FIRST_WORDS or any([word != CHEAPER for word in last]):
        return False
    return all([is_code(ground, code) for _, code in thing])


def falls(ground, row, one, two):
    """Whether a step of a road may lead from one outcome to the other: they are worth the same, and no key rises."""
    if one == two:
        return True
    if one is not None:
        # A key that does not rise spares the question what very great counts are worth.
        if two is None or key_of(ground[1], two[0]) > key_of(ground[1], one[0]):
            return False
    return worth_by(row, one) == worth_by(row, two)


def ends_right(ground, row, outcomes, code):
    """Whether no outcome of the last code of a road can be made cheaper, and the code is the one of their diagram."""
    least = everything_by(row)
    for number, outcome in enumerate(outcomes):
        if outcome is None:
            if least is not None:
                return False
        elif outcome != (least, number, PLAIN) and normal_by(row, outcome[0]) != outcome[0]:
            return False
    return code == code_of_outcomes(ground, outcomes)
