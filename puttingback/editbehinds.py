"""Two machines behind one another, the one answering on a side between what the other one then answers."""

from puttingback.editmachines import check_machine, come_behind, moves_of, told_row
from puttingback.errors import Failing, TooMany, Unfitting
from puttingback.reaching import FAILED, rows_ahead

MOST_ANSWERED = 4
MOST_STANDINGS = 64

# The left place, standing of the one, place between, standing of the other and right place at which both begin.
START_BEHIND = (0, 0, 0, 0, 0)


def failing_behind(one, other):
    """Return the least row of letters of the outer sides at whose last one two machines fail, or None."""
    check_fitting(one, other)
    ahead = places_behind(one, other)
    return told_row(ahead, FAILED) if FAILED in ahead else None


def put_behind(one, other):
    """Return any serving machine that comes to the same places as two machines behind one another."""
    check_fitting(one, other)
    check_short_answers(one)
    check_short_answers(other)
    ahead = places_behind(one, other)
    if FAILED in ahead:
        raise Failing("the machines fail behind one another")
    numbers = {}
    for places in ahead:
        numbers.setdefault(places[1:4], len(numbers))
    if len(numbers) > MOST_STANDINGS:
        raise TooMany(MOST_STANDINGS)
    return (one[0], other[1], standings_behind(one, other, numbers))


def check_fitting(one, other):
    """Raise InvalidMachine for what is no machine, and Unfitting for two that do not fit."""
    check_machine(one)
    check_machine(other)
    if one[1] != other[0]:
        raise Unfitting("the sides between are unlike")


def check_short_answers(machine):
    """Raise TooMany if an answer of a machine has more edits than can be answered in one answer."""
    for standing in machine[2]:
        for _, answer in standing[0] + standing[1]:
            if len(answer) > MOST_ANSWERED:
                raise TooMany(MOST_ANSWERED)


def places_behind(one, other):
    """Return what rows_ahead does of two machines behind one another."""
    left_told, right_told = told_through(one, 0, other), told_through(other, 1, one)
    return rows_ahead(START_BEHIND, lambda places: moves_behind(one[0], left_told, other[1], right_told, places))


def moves_behind(left_side, left_told, right_side, right_told, places):
    """Return the list of the letters let on both outer sides, with what each comes to."""
    left, standing, between, beyond, right = places
    one, other = (left, standing, between), (between, beyond, right)
    moves = []
    for index, edit in enumerate(left_side):
        if edit[left] != -1:
            told, come = left_told[standing][index]
            came = come[other]
            moves.append(((0, index), came if came == FAILED else (edit[left], told) + came))
    for index, edit in enumerate(right_side):
        if edit[right] != -1:
            told, come = right_told[beyond][index]
            came = come[one]
            moves.append(((1, index), came if came == FAILED else came + (told, edit[right])))
    return moves


def told_through(machine, side, beyond):
    """Return the list, for each standing of a machine, of what is told for each edit of a side, through another one.

    It is the standing that is told, and the dict of what the answer, done as letters of the other machine, comes to.
    """
    triples = list(moves_of(beyond))
    steps = [steps_by(beyond, triples, (side, index)) for index in range(len(beyond[side]))]
    known = {}
    rows = []
    for standing in machine[2]:
        for _, answer in standing[side]:
            if answer not in known:
                known[answer] = ends_by(steps, triples, answer)
        rows.append([(told, known[answer]) for told, answer in standing[side]])
    return rows


def steps_by(machine, triples, letter):
    """Return the dict of what comes of a letter at all triples, FAILED where it is not let, or where it fails."""
    steps = {FAILED: FAILED}
    for triple in triples:
        came = come_behind(machine, triple, letter)
        steps[triple] = FAILED if came is None else came
    return steps


def ends_by(steps, triples, answer):
    """Return the dict of what comes at all triples of the edits of an answer, one behind the other."""
    ends = triples
    for edit in answer:
        ends = [steps[edit][end] for end in ends]
    return {triple: end for triple, end in zip(triples, ends)}


def standings_behind(one, other, numbers):
    """Return the standings of a machine for those of two behind one another, which have some numbers."""
    rows = []
    for standing in numbers:
        left = [told_behind(one, other, numbers, standing, (0, index)) for index in range(len(one[0]))]
        right = [told_behind(one, other, numbers, standing, (1, index)) for index in range(len(other[1]))]
        rows.append((tuple(left), tuple(right)))
    return tuple(rows)


def told_behind(one, other, numbers, standing, letter):
    """Return the pair of a standing's number and of an answer that is told for a letter at a standing of both."""
    side, index = letter
    first, second = (one, other) if side == 0 else (other, one)
    own, between, beyond = standing if side == 0 else standing[::-1]
    own, answer = first[2][own][side][index]
    edits = []
    for edit in answer:
        between = second[side][edit][between]
        if between == -1:
            break
        beyond, answered = second[2][beyond][side][edit]
        edits.extend(answered)
    came = (own, between, beyond) if side == 0 else (beyond, between, own)
    # What is told elsewhere is told for letters that are not let wherever this standing is come to.
    return (numbers.get(came, 0), tuple(edits))
