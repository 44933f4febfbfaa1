"""Rows alike and apart, rules, and rows turned by rules step by step."""

from leastdeeds.errors import NoRow, NoRule, NoStep, TooLong
from leastdeeds.machines import LONGEST_ROW, beginnings, is_tuple_of, need_machine, need_row
from leastdeeds.runs import behaviour
from leastdeeds.wholes import is_between


def parted(machine, one, other):
    """The first beginning from which two rows end unlike, or None where they are alike."""
    one_ends = behaviour(machine, one)
    other_ends = behaviour(machine, other)
    for start, one_end, other_end in zip(beginnings(machine), one_ends, other_ends):
        if one_end != other_end:
            return start
    return None


def is_row(machine, thing):
    """Whether a thing is a row of a machine."""
    try:
        need_row(machine, thing)
    except (NoRow, TooLong):
        return False
    return True


def is_rule(machine, thing):
    """Whether a thing is a rule of a machine that holds."""
    if not is_tuple_of(2, thing):
        return False
    one, other = thing
    return is_row(machine, one) and is_row(machine, other) and parted(machine, one, other) is None


def need_rules(machine, rules):
    """Refuse with NoRule the first that is no rule of a machine, or doesn't hold."""
    need_machine(machine)
    for number, rule in enumerate(rules):
        if not is_rule(machine, rule):
            raise NoRule(number)


def behind_step(rules, row, step):
    """The row behind a step, a new one, or None where the step can't be done."""
    place, number, back = step
    # Python counts places below 0 from the end, and finds an empty row beyond it.
    if not is_between(place, 0, len(row)) or not is_between(number, 0, len(rules) - 1):
        return None
    given, taken = rules[number]
    if back:
        given, taken = taken, given
    beyond = place + len(given)
    if row[place:beyond] != given:
        return None
    made = row[:place] + taken + row[beyond:]
    return made if len(made) <= LONGEST_ROW else None


def stepped(machine, rules, row, steps):
    """The row behind all steps, each by one of the rules."""
    need_row(machine, row)
    need_rules(machine, rules)
    standing = list(row)
    for place, step in enumerate(steps):
        made = behind_step(rules, standing, step)
        if made is None:
            raise NoStep(place)
        standing = made
    return standing
