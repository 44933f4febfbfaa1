"""What the document says, written once more, slow and plain, for the tests to hold the program against."""

import copy
import itertools
import random

from leastdeeds.errors import DeedError


def new_word(deed, start):
    """What point 4 says of each sort."""
    match deed:
        case ("turn", at, table, _):
            return table[start[at]]
        case ("join", at, other, tables, _):
            return tables[start[at]][start[other]]
        case ("move", _, other, _):
            return start[other]
        case ("put", _, word, _):
            return word


def behind(deed, start):
    ends = list(start)
    ends[deed[1]] = new_word(deed, start)
    return tuple(ends)


def starts_of(machine):
    return sorted(itertools.product(range(machine[0]), repeat=machine[1]))


def nothing_done(machine):
    """The behaviour of the empty row."""
    return tuple(starts_of(machine))


def led(deed, ends):
    return tuple(behind(deed, end) for end in ends)


def does(machine, row):
    """The behaviour of a row, of whatever length."""
    ends = nothing_done(machine)
    for number in row:
        ends = led(machine[2][number], ends)
    return ends


def price_of(machine, row):
    return sum(machine[2][number][-1] for number in row)


def rows_to(machine, longest):
    for long in range(longest + 1):
        for row in itertools.product(range(len(machine[2])), repeat=long):
            yield list(row)


def all_behaviours(machine, stop=2000):
    """All behaviours that rows reach, by walking on till nothing new comes."""
    found = {nothing_done(machine): True}
    ahead = list(found)
    while ahead:
        now = []
        for ends in ahead:
            for deed in machine[2]:
                new = led(deed, ends)
                if new not in found:
                    found[new] = True
                    now.append(new)
        if len(found) > stop:
            raise AssertionError(f"more than {stop} behaviours")
        ahead = now
    return list(found)


def least_costs(machine):
    """The least cost of each behaviour, made smaller till none can be."""
    reached = all_behaviours(machine)
    leads = [(ends, led(deed, ends), deed[-1]) for ends in reached for deed in machine[2]]
    costs = {nothing_done(machine): 0}
    changed = True
    while changed:
        changed = False
        for ends, new, price in leads:
            if ends in costs and costs[ends] + price < costs.get(new, 10 ** 9):
                costs[new] = costs[ends] + price
                changed = True
    return costs


def fits(ends, work):
    return all(wanted is None or end[0] == wanted for end, wanted in zip(ends, work))


def is_shaped(machine, ends):
    return len(ends) == len(starts_of(machine)) and all(end in starts_of(machine) for end in ends)


def showing(machine, work, number, floors):
    """Point 11, sentence by sentence."""
    if not all(is_shaped(machine, ends) for ends, floor in floors):
        return False
    if not any(ends == nothing_done(machine) and floor >= number for ends, floor in floors):
        return False
    for ends, floor in floors:
        if floor <= 0:
            continue
        if fits(ends, work):
            return False
        for deed in machine[2]:
            rest = floor - deed[-1]
            new = led(deed, ends)
            if rest > 0 and not any(other == new and low >= rest for other, low in floors):
                return False
    return True


def closing(machine, work, behaviours):
    """Point 12, sentence by sentence."""
    if not all(is_shaped(machine, ends) for ends in behaviours):
        return False
    if nothing_done(machine) not in behaviours:
        return False
    return all(
        not fits(ends, work) and all(led(deed, ends) in behaviours for deed in machine[2]) for ends in behaviours
    )


def refusal_of(ask, *things):
    """The refusal, or None; what was handed in must stay as it was."""
    kept = copy.deepcopy(things)
    try:
        ask(*things)
        refusal = None
    except DeedError as e:
        refusal = e
    if things != kept:
        raise AssertionError(f"changed: {kept}")
    return refusal


def some_deed(chance, words, places):
    sort = chance.choice(("turn", "turn", "join", "join", "move", "put"))
    at, other, price = chance.randrange(places), chance.randrange(places), chance.randint(1, 3)
    tables = tuple(tuple(chance.randrange(words) for _ in range(words)) for _ in range(words))
    return {
        "turn": ("turn", at, tables[0], price),
        "join": ("join", at, other, tables, price),
        "move": ("move", at, other, price),
        "put": ("put", at, chance.randrange(words), price),
    }[sort]


def some_machines(seed, many, most=255):
    """Machines, the same ones each time, whose rows reach at most so many behaviours."""
    chance = random.Random(seed)
    found = []
    while len(found) < many:
        words, places = chance.choice(((2, 1), (3, 1), (4, 1), (2, 2), (3, 2), (4, 2)))
        deeds = tuple(some_deed(chance, words, places) for _ in range(chance.randint(1, 4)))
        machine = (words, places, deeds)
        try:
            if len(all_behaviours(machine, most)) <= most:
                found.append(machine)
        except AssertionError:
            continue
    return found


def some_works(machine, seed, many):
    """Works of a machine: some of anything, some of rows, with None for some of their words."""
    chance = random.Random(seed)
    long = len(starts_of(machine))
    works = []
    for _ in range(many):
        row = [chance.randrange(len(machine[2])) for _ in range(chance.randint(0, 8))]
        words = chance.choice((
            [end[0] for end in does(machine, row)],
            [chance.randrange(machine[0]) for _ in range(long)],
        ))
        gaps = chance.choice((0, 0, 1, 2, 3))
        works.append(tuple(None if chance.randrange(4) < gaps else word for word in words))
    return works
