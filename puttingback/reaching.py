"""What can be reached from a first place by letters, one behind the other, and by which rows of them.

A place here is anything that can be the key of a dict, a letter whatever leads from one place to another one.
"""

# What stands for a place where what leads on fails.
FAILED = ()


def rows_ahead(start, moves_at):
    """Return the dict, for each place to which rows come from a first one, of the place and the letter ahead of it.

    A function tells for each place the list of the letters that are let there, with the place to which each comes.
    FAILED is among the places if some row fails. By what is ahead go the least rows, in whose order all stand.
    """
    ahead = {start: None}
    level = [start]
    while level:
        deeper = []
        for place in level:
            for letter, came in moves_at(place):
                if came not in ahead:
                    ahead[came] = (place, letter)
                    if came != FAILED:
                        deeper.append(came)
        level = deeper
    return ahead


def row_to(ahead, end):
    """Return the least row that comes to what surely is one of the places to which rows come."""
    letters = []
    step = ahead[end]
    while step is not None:
        letters.append(step[1])
        step = ahead[step[0]]
    return tuple(letters[::-1])
