"""Machines that answer edits of one side by edits of the other, and whether they serve."""

from puttingback.errors import InvalidLetter, InvalidMachine, InvalidRow, NotServing, TooMany
from puttingback.reaching import FAILED, row_to, rows_ahead
from puttingback.values import is_ascending, is_below, is_integer, is_numbers_row, is_row

MOST_EDITS = 3
MOST_PLACES = 4
MOST_STANDINGS = 64
MOST_ANSWERED = 16
MOST_LETTERS = 400

# The triple at which machines begin.
START = (0, 0, 0)


def is_machine(value):
    """Return whether any value is a machine."""
    if not is_row(value, 3, 3) or not is_side(value[0]) or not is_side(value[1]):
        return False
    if not is_row(value[2], 1, MOST_STANDINGS):
        return False
    return all([is_standing(standing, value[0], value[1], len(value[2])) for standing in value[2]])


def come_by(machine, row):
    """Return to what a row of letters comes: a triple, or the index of the letter that is refused, or fails."""
    check_machine(machine)
    if not is_row(row, 0, MOST_LETTERS) or not all([is_letter(machine, letter) for letter in row]):
        raise InvalidRow("not a row of letters")
    triple = START
    for index, letter in enumerate(row):
        triple = come_behind(machine, triple, letter)
        if triple is None:
            return ("refused", index)
        if triple == FAILED:
            return ("failed", index)
    return ("at", triple)


def failing_row(machine):
    """Return the least row of letters at whose last one a machine fails, or None."""
    check_machine(machine)
    ahead = triples_ahead(moves_of(machine))
    return told_row(ahead, FAILED) if FAILED in ahead else None


def serving_lot(machine):
    """Return any serving lot of a machine, or None."""
    check_machine(machine)
    ahead = triples_ahead(moves_of(machine))
    return None if FAILED in ahead else tuple(sorted(ahead))


def is_serving_lot(machine, value):
    """Return whether any value is a serving lot of a machine."""
    check_machine(machine)
    if not isinstance(value, tuple) or not all([is_triple(machine, triple) for triple in value]):
        return False
    moves = moves_of(machine)
    return is_ascending(value) and START in value and is_closed(value, lambda triple: moves[triple])


def check_machine(machine):
    """Raise InvalidMachine for what is no machine."""
    if not is_machine(machine):
        raise InvalidMachine("not a machine")


def check_letter(machine, letter):
    """Raise InvalidLetter for what is no letter of a machine."""
    if not is_letter(machine, letter):
        raise InvalidLetter("not a letter of the machine")


def check_serving(ahead):
    """Raise NotServing for a machine that fails at a letter of the rows that come to its triples."""
    if FAILED in ahead:
        raise NotServing("the machine fails")


def is_side(value):
    """Return whether any value is a side."""
    if not is_row(value, 1, MOST_EDITS) or not is_row(value[0], 1, MOST_PLACES):
        return False
    return all([is_edit(edit, len(value[0])) for edit in value])


def is_edit(value, places):
    """Return whether any value is an edit for so many places."""
    if not is_row(value, places, places):
        return False
    return all([is_integer(place) and -1 <= place < places for place in value])


def is_standing(value, left, right, many):
    """Return whether any value is one of so many standings of a machine with two sides."""
    if not is_row(value, 2, 2) or not is_row(value[0], len(left), len(left)):
        return False
    if not is_row(value[1], len(right), len(right)):
        return False
    to_left = [is_told(pair, many, len(right)) for pair in value[0]]
    return all(to_left) and all([is_told(pair, many, len(left)) for pair in value[1]])


def is_told(value, many, edits):
    """Return whether any value is a pair of one of so many standings and of an answer of some of so many edits."""
    if not is_row(value, 2, 2) or not is_below(value[0], many):
        return False
    return is_numbers_row(value[1], 0, MOST_ANSWERED, edits)


def is_letter(machine, value):
    """Return whether any value is a letter of a machine."""
    return is_row(value, 2, 2) and is_below(value[0], 2) and is_below(value[1], len(machine[value[0]]))


def is_triple(machine, value):
    """Return whether any value is a triple of a machine."""
    if not is_row(value, 3, 3) or not is_below(value[0], len(machine[0][0])):
        return False
    return is_below(value[1], len(machine[2])) and is_below(value[2], len(machine[1][0]))


def letters_of(machine):
    """Return the list of all letters of a machine, in their order."""
    return [(side, index) for side in (0, 1) for index in range(len(machine[side]))]


def come_behind(machine, triple, letter):
    """Return the triple to which a letter comes from one, None if it is not let there, or FAILED."""
    side, index = letter
    place = machine[side][index][triple[2 * side]]
    if place == -1:
        return None
    standing, answer = machine[2][triple[1]][side][index]
    beside = triple[2 - 2 * side]
    for edit in answer:
        beside = machine[1 - side][edit][beside]
        if beside == -1:
            return FAILED
    return (place, standing, beside) if side == 0 else (beside, standing, place)


def moves_of(machine):
    """Return the dict, for each triple, of the list of the letters that are let, with what each comes to."""
    letters = letters_of(machine)
    moves = {}
    for left in range(len(machine[0][0])):
        for standing in range(len(machine[2])):
            for right in range(len(machine[1][0])):
                triple = (left, standing, right)
                come = [(letter, come_behind(machine, triple, letter)) for letter in letters]
                moves[triple] = [move for move in come if move[1] is not None]
    return moves


def triples_ahead(moves):
    """Return what rows_ahead does of the triples of a machine with some moves."""
    return rows_ahead(START, lambda triple: moves[triple])


def told_row(ahead, end):
    """Return the least row that comes to a place, or raise TooMany if it is too long to be told."""
    row = row_to(ahead, end)
    if len(row) > MOST_LETTERS:
        raise TooMany(MOST_LETTERS)
    return row


def is_closed(lot, moves_at):
    """Return whether no letter fails at a place of a lot, and those behind are among it, too."""
    known = {place: True for place in lot}
    return all([came in known for place in lot for _, came in moves_at(place)])
