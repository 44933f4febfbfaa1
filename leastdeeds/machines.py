"""Machines, their deeds, their beginnings, and their rows."""

from leastdeeds.errors import NoMachine, NoRow, TooLong
from leastdeeds.wholes import is_between

LEAST_WORDS = 2
MOST_WORDS = 4
MOST_PLACES = 2
MOST_DEEDS = 6
MOST_COST = 3
LONGEST_ROW = 40


def is_word(words, thing):
    """Whether a thing is one of so many words."""
    return is_between(thing, 0, words - 1)


def is_place(places, thing):
    """Whether a thing is one of so many places."""
    return is_between(thing, 0, places - 1)


def is_cost(thing):
    """Whether a thing may be the cost of a deed."""
    return is_between(thing, 1, MOST_COST)


def is_tuple_of(long, thing):
    """Whether a thing is a tuple of so many things."""
    return isinstance(thing, tuple) and len(thing) == long


def is_table(words, thing):
    """Whether a thing is a table that tells a word for each word."""
    return is_tuple_of(words, thing) and all([is_word(words, word) for word in thing])


def is_double_table(words, thing):
    """Whether a thing is a table that tells a word for each two words."""
    return is_tuple_of(words, thing) and all([is_table(words, table) for table in thing])


def is_turn(words, places, parts):
    """Whether parts are those of a turn: at, table, cost."""
    if len(parts) != 3:
        return False
    at, table, price = parts
    return is_place(places, at) and is_table(words, table) and is_cost(price)


def is_join(words, places, parts):
    """Whether parts are those of a join: at, other, table, cost."""
    if len(parts) != 4:
        return False
    at, other, table, price = parts
    if not is_place(places, at) or not is_place(places, other):
        return False
    return is_double_table(words, table) and is_cost(price)


def is_move(words, places, parts):
    """Whether parts are those of a move: at, other, cost."""
    if len(parts) != 3:
        return False
    at, other, price = parts
    return is_place(places, at) and is_place(places, other) and is_cost(price)


def is_put(words, places, parts):
    """Whether parts are those of a put: at, word, cost."""
    if len(parts) != 3:
        return False
    at, word, price = parts
    return is_place(places, at) and is_word(words, word) and is_cost(price)


SORTS = {"turn": is_turn, "join": is_join, "move": is_move, "put": is_put}


def is_deed(words, places, thing):
    """Whether a thing is a deed over so many words and places."""
    if not isinstance(thing, tuple) or not thing:
        return False
    sort = thing[0]
    # A list can't even be asked for among the keys of a dict.
    if not isinstance(sort, str) or sort not in SORTS:
        return False
    is_sort = SORTS[sort]
    return is_sort(words, places, thing[1:])


def is_machine(thing):
    """Whether a thing is a machine."""
    if not is_tuple_of(3, thing):
        return False
    words, places, deeds = thing
    if not is_between(words, LEAST_WORDS, MOST_WORDS) or not is_between(places, 1, MOST_PLACES):
        return False
    if not isinstance(deeds, tuple) or not 1 <= len(deeds) <= MOST_DEEDS:
        return False
    return all([is_deed(words, places, deed) for deed in deeds])


def need_machine(thing):
    """Refuse with NoMachine what is none."""
    if not is_machine(thing):
        raise NoMachine("this is no machine")


def is_beginning(machine, thing):
    """Whether a thing is a tuple of a word for each place of a machine."""
    words, places, deeds = machine
    return is_tuple_of(places, thing) and all([is_word(words, word) for word in thing])


def beginnings(machine):
    """All beginnings of a machine, in order."""
    need_machine(machine)
    words, places, deeds = machine
    starts = [()]
    for place in range(places):
        starts = [start + (word,) for start in starts for word in range(words)]
    return starts


def is_deed_number(machine, thing):
    """Whether a thing is the number of one of a machine's deeds."""
    return is_between(thing, 0, len(machine[2]) - 1)


def need_numbers(machine, row):
    """Refuse with NoRow what is no list of numbers of deeds, of whatever length."""
    if not isinstance(row, list):
        raise NoRow(0)
    for place, thing in enumerate(row):
        if not is_deed_number(machine, thing):
            raise NoRow(place)


def need_row(machine, row):
    """Refuse with NoMachine, NoRow or TooLong what is no row of a machine."""
    need_machine(machine)
    need_numbers(machine, row)
    if len(row) > LONGEST_ROW:
        raise TooLong(f"a row has at most {LONGEST_ROW} deeds")


def summed_cost(machine, row):
    """The cost of all deeds of a row, of any length; nothing is asked of what is handed in."""
    # The cost stands last in each sort of deed.
    return sum([machine[2][number][-1] for number in row])


def cost(machine, row):
    """The cost of all deeds of a row together."""
    need_row(machine, row)
    return summed_cost(machine, row)
