"""What rows do: their runs and their behaviours."""

from leastdeeds.errors import NoWord
from leastdeeds.machines import beginnings, is_beginning, is_tuple_of, need_row


def turned(deed, standing):
    """The word that a turn puts."""
    sort, at, table, price = deed
    return table[standing[at]]


def joined(deed, standing):
    """The word that a join puts."""
    sort, at, other, table, price = deed
    return table[standing[at]][standing[other]]


def moved(deed, standing):
    """The word that a move puts."""
    sort, at, other, price = deed
    return standing[other]


def put_in(deed, standing):
    """The word that a put puts."""
    sort, at, word, price = deed
    return word


NEW_WORDS = {"turn": turned, "join": joined, "move": moved, "put": put_in}


def done(deed, standing):
    """What stands behind a deed."""
    new_word = NEW_WORDS[deed[0]]
    at = deed[1]
    return standing[:at] + (new_word(deed, standing),) + standing[at + 1:]


def all_standing(machine, row, beginning):
    """What stands ahead of a row and behind each of its deeds; nothing is asked of what is handed in."""
    standings = [beginning]
    for number in row:
        standings.append(done(machine[2][number], standings[-1]))
    return standings


def run(machine, row, beginning):
    """The run of a row from a beginning."""
    need_row(machine, row)
    if not is_beginning(machine, beginning):
        raise NoWord("this is no beginning of the machine")
    return all_standing(machine, row, beginning)


def ends_of(machine, row):
    """The ends of a row, of any length, from all beginnings; nothing is asked of the row."""
    return tuple([all_standing(machine, row, start)[-1] for start in beginnings(machine)])


def behaviour(machine, row):
    """The ends of a row from all beginnings, in order."""
    need_row(machine, row)
    return ends_of(machine, row)


def are_behaviours(machine, things):
    """Whether each of some things is a tuple of an end for each beginning of a machine."""
    many = len(beginnings(machine))
    return all([is_tuple_of(many, thing) and all([is_beginning(machine, end) for end in thing]) for thing in things])
