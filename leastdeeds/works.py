"""Works: the words that place 0 shall have at the ends."""

from leastdeeds.errors import NoWork
from leastdeeds.machines import beginnings, is_tuple_of, is_word, need_machine, need_row
from leastdeeds.runs import behaviour


def is_work(machine, thing):
    """Whether a thing is a tuple of a word, or None, for each beginning of a machine."""
    if not is_tuple_of(len(beginnings(machine)), thing):
        return False
    return all([word is None or is_word(machine[0], word) for word in thing])


def need_work(machine, work):
    """Refuse with NoMachine or NoWork what is no work of a machine."""
    need_machine(machine)
    if not is_work(machine, work):
        raise NoWork("this is no work of the machine")


def ends_do(ends, work):
    """Whether a behaviour does a work."""
    return all([word is None or end[0] == word for end, word in zip(ends, work)])


def does_work(machine, row, work):
    """Whether a row does a work."""
    need_row(machine, row)
    need_work(machine, work)
    return ends_do(behaviour(machine, row), work)
