"""Tables of all that rows at most so dear do, and how many rows and behaviours cost just so much."""

from leastdeeds.errors import NoBound
from leastdeeds.least import reached
from leastdeeds.machines import need_machine
from leastdeeds.wholes import is_between

GREATEST_BOUND = 12


def need_bound(machine, bound):
    """Refuse with NoMachine or NoBound what no table can be made of."""
    need_machine(machine)
    if not is_between(bound, 0, GREATEST_BOUND):
        raise NoBound(f"a bound is a whole number from 0 to {GREATEST_BOUND}")


def table(machine, bound):
    """Each behaviour of rows at most so dear, with its least cost and a row of it, rising by behaviour."""
    need_bound(machine, bound)
    return [(ends, price, row) for ends, (price, row) in sorted(reached(machine, bound).items())]


def rows_by_cost(machine, bound):
    """How many rows cost 0, 1 and so on to the bound."""
    many = [1]
    for price in range(1, bound + 1):
        # A row is a cheaper one and its last deed.
        many.append(sum([many[price - deed[-1]] for deed in machine[2] if deed[-1] <= price]))
    return many


def counts(machine, bound):
    """How many rows cost 0, 1 and so on to the bound, and how many behaviours have it as their least cost."""
    need_bound(machine, bound)
    least_costs = [price for price, row in reached(machine, bound).values()]
    return (rows_by_cost(machine, bound), [least_costs.count(price) for price in range(bound + 1)])
