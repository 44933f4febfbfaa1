"""Rows mended through windows, step by step, each step cheaper."""

from leastdeeds.errors import NoBound, TooLong
from leastdeeds.least import led_to, priced_leads, reached
from leastdeeds.machines import beginnings, is_deed_number, need_row, summed_cost
from leastdeeds.runs import ends_of
from leastdeeds.wholes import is_between

LONGEST_MENDED = 12
WIDEST_WINDOW = 6


def need_mendable(machine, row, most):
    """Refuse with NoMachine, NoRow, TooLong or NoBound what can't be mended."""
    need_row(machine, row)
    if len(row) > LONGEST_MENDED:
        raise TooLong(f"a row that is mended has at most {LONGEST_MENDED} deeds")
    if not is_between(most, 1, WIDEST_WINDOW):
        raise NoBound(f"windows are at most 1 to {WIDEST_WINDOW} deeds long")


def cheaper_window(leads, found, ends, deeds):
    """How many deeds, from the first on, can be cheaper, and a row for them; or None. Ends are the empty row's."""
    price = 0
    for long, number in enumerate(deeds, start=1):
        step_price, lead = leads[number]
        price += step_price
        ends = led_to(lead, ends)
        least_price, least_row = found[ends]
        if least_price < price:
            # Two steps may put in the same row, but each list that is told is one of its own.
            return (long, list(least_row))
    return None


def next_step(machine, found, row, most):
    """A step that makes a row cheaper, or None where no window at most so long can be cheaper."""
    leads = priced_leads(machine)
    empty_ends = tuple(beginnings(machine))
    for place in range(len(row)):
        window = cheaper_window(leads, found, empty_ends, row[place:place + most])
        if window is not None:
            long, cheaper = window
            return (place, long, cheaper)
    return None


def mended(machine, row, most):
    """A row of which no window at most so long can be cheaper, and the steps that lead to it."""
    need_mendable(machine, row, most)
    found = reached(machine)
    standing = list(row)
    steps = []
    step = next_step(machine, found, standing, most)
    while step is not None:
        place, long, cheaper = step
        standing[place:place + long] = cheaper
        steps.append(step)
        step = next_step(machine, found, standing, most)
    return (standing, steps)


def are_deed_numbers(machine, thing):
    """Whether a thing is a row of a machine, of any length."""
    return isinstance(thing, list) and all([is_deed_number(machine, number) for number in thing])


def behind_window(machine, row, most, step):
    """The row behind a step, a new one, or None where the step isn't right."""
    place, long, cheaper = step
    if not is_between(long, 1, most) or not is_between(place, 0, len(row) - long):
        return None
    if not are_deed_numbers(machine, cheaper):
        return None
    beyond = place + long
    window = row[place:beyond]
    if summed_cost(machine, cheaper) >= summed_cost(machine, window):
        return None
    if ends_of(machine, cheaper) != ends_of(machine, window):
        return None
    return row[:place] + cheaper + row[beyond:]


def made_by(machine, row, most, steps):
    """The row behind all steps, or None where one of them isn't right."""
    need_mendable(machine, row, most)
    standing = list(row)
    for step in steps:
        standing = behind_window(machine, standing, most, step)
        if standing is None:
            return None
    return standing
