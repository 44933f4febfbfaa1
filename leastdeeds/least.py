"""The least rows that do a work, and what shows that none is cheaper, or that there is none."""

from leastdeeds.errors import TooMany
from leastdeeds.machines import MOST_COST, beginnings
from leastdeeds.runs import are_behaviours, done
from leastdeeds.works import ends_do, need_work

MOST_BEHAVIOURS = 255


def priced_leads(machine):
    """For each deed its cost, and a dict of what stands behind it by what stands ahead."""
    starts = beginnings(machine)
    return [(deed[-1], {start: done(deed, start) for start in starts}) for deed in machine[2]]


def led_to(lead, ends):
    """The behaviour to which a deed leads from another one."""
    return tuple([lead[end] for end in ends])


def next_level(leads, levels, found):
    """The behaviours whose least cost is the next number, which are put into found."""
    price = len(levels)
    level = []
    for number, (step_price, lead) in enumerate(leads):
        # Nothing costs less than 0, but Python would count such levels from the end.
        ahead = levels[price - step_price] if step_price <= price else []
        for ends in ahead:
            new_ends = led_to(lead, ends)
            if new_ends not in found:
                found[new_ends] = (price, found[ends][1] + [number])
                level.append(new_ends)
                if len(found) > MOST_BEHAVIOURS:
                    raise TooMany(f"rows have more than {MOST_BEHAVIOURS} behaviours")
    return level


def reached(machine, bound=None):
    """A dict of (least cost, a row of that cost) by behaviour, of rows at most so dear; of all where bound is None."""
    leads = priced_leads(machine)
    empty_ends = tuple(beginnings(machine))
    found = {empty_ends: (0, [])}
    levels = [[empty_ends]]
    # A deed leads at most MOST_COST levels on: behind so many empty ones nothing comes.
    while any(levels[-MOST_COST:]) and (bound is None or len(levels) <= bound):
        levels.append(next_level(leads, levels, found))
    return found


def least(machine, work):
    """A row of least cost that does a work, with its floors, or behaviours that show that there is none."""
    need_work(machine, work)
    found = reached(machine)
    best = min([found[ends] for ends in found if ends_do(ends, work)], default=None)
    if best is None:
        return ("none", list(found))
    price, row = best
    # None does the work for less than the price: from each behaviour the price less its own cost is still due.
    floors = [(ends, price - found[ends][0]) for ends in found if found[ends][0] <= price]
    return ("row", price, row, floors)


def highest_floors(floors):
    """The greatest number of each behaviour in floors."""
    highest = {}
    for ends, floor in floors:
        highest[ends] = max(floor, highest.get(ends, floor))
    return highest


def floor_holds(leads, work, highest, ends):
    """Whether a behaviour keeps, with its greatest number, what floors ask of it."""
    floor = highest[ends]
    if floor <= 0:
        return True
    if ends_do(ends, work):
        return False
    for step_price, lead in leads:
        rest = floor - step_price
        if rest > 0 and highest.get(led_to(lead, ends), 0) < rest:
            return False
    return True


def shows(machine, work, number, floors):
    """Whether floors show that no row that does a work costs less than a number."""
    need_work(machine, work)
    if not are_behaviours(machine, [ends for ends, floor in floors]):
        return False
    # Where a behaviour stands twice, what its greatest number keeps, the smaller ones keep too.
    highest = highest_floors(floors)
    empty_ends = tuple(beginnings(machine))
    if empty_ends not in highest or highest[empty_ends] < number:
        return False
    leads = priced_leads(machine)
    return all([floor_holds(leads, work, highest, ends) for ends in highest])


def closed(machine, work, behaviours):
    """Whether behaviours show that no row does a work."""
    need_work(machine, work)
    if not are_behaviours(machine, behaviours):
        return False
    known = {ends: True for ends in behaviours}
    if tuple(beginnings(machine)) not in known or any([ends_do(ends, work) for ends in known]):
        return False
    leads = priced_leads(machine)
    return all([led_to(lead, ends) in known for ends in known for step_price, lead in leads])
