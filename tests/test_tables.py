import copy
import itertools
import unittest

from leastdeeds.errors import NoBound, NoMachine, TooMany
from leastdeeds.machines import cost
from leastdeeds.runs import behaviour
from leastdeeds.tables import counts, table
from tests.plainly import does, least_costs, led, nothing_done, price_of, refusal_of, rows_to, some_machines
from tests.samples import (
    ALL_ON_ONE_PLACE, ALL_ON_TWO_PLACES, BACK_AND_FORTH, EVERY_TURN, FOUR_WORDS, MACHINES, NO_MACHINES, REACHES_255,
    REACHES_256, REACHES_257, STRANGE, TO_255, TO_256, TWO_WORDS_ONE_PLACE, TWO_WORDS_TWO_PLACES,
)

SMALL = (TWO_WORDS_ONE_PLACE, ALL_ON_ONE_PLACE, FOUR_WORDS, TWO_WORDS_TWO_PLACES, BACK_AND_FORTH)
WRONG_BOUNDS = STRANGE + (
    13, 14, 100, -2, "12", (0,), [12], ("0",), [[0]], ((0,), 1), 2 ** 64,
)


def costs_to(machine, bound):
    """The least costs up to a bound of whatever machine, cost by cost."""
    costs = {nothing_done(machine): 0}
    for price in range(1, bound + 1):
        for ends in list(costs):
            for deed in machine[2]:
                new = led(deed, ends)
                if costs[ends] + deed[-1] == price and new not in costs:
                    costs[new] = price
    return costs


class TableTest(unittest.TestCase):
    def right(self, machine, bound, costs):
        """Hold a table against least costs, some of them beyond the bound."""
        told = table(machine, bound)
        self.assertIs(type(told), list)
        wanted = sorted(ends for ends in costs if costs[ends] <= bound)
        self.assertEqual([line[0] for line in told], wanted)
        for line in told:
            self.assertIs(type(line), tuple)
            ends, price, row = line
            self.assertEqual((type(ends), type(price), type(row)), (tuple, int, list))
            self.assertEqual(price, costs[ends])
            self.assertEqual(price_of(machine, row), price)
            self.assertEqual(does(machine, row), ends)
            self.assertEqual((cost(machine, row), behaviour(machine, row)), (price, ends))
        return told

    def test_written_out(self):
        self.assertEqual(table(TWO_WORDS_ONE_PLACE, 0), [(((0,), (1,)), 0, [])])
        whole = [(((0,), (1,)), 0, []), (((1,), (0,)), 1, [0])]
        for bound in range(1, 13):
            self.assertEqual(table(TWO_WORDS_ONE_PLACE, bound), whole)
        machine = (2, 1, (("turn", 0, (1, 0), 3), ("put", 0, 0, 2)))
        self.assertEqual(table(machine, 1), [(((0,), (1,)), 0, [])])
        self.assertEqual(table(machine, 2), [(((0,), (0,)), 2, [1]), (((0,), (1,)), 0, [])])
        self.assertEqual(
            table(machine, 4), [(((0,), (0,)), 2, [1]), (((0,), (1,)), 0, []), (((1,), (0,)), 3, [0])],
        )
        self.assertEqual(
            table(machine, 5),
            [(((0,), (0,)), 2, [1]), (((0,), (1,)), 0, []), (((1,), (0,)), 3, [0]), (((1,), (1,)), 5, [1, 0])],
        )

    def test_at_bound_0_the_empty_row_alone(self):
        for machine in MACHINES + (EVERY_TURN, REACHES_256, TO_255, TO_256):
            self.assertEqual(table(machine, 0), [(nothing_done(machine), 0, [])])

    def test_against_every_row(self):
        for machine in SMALL + (ALL_ON_TWO_PLACES, EVERY_TURN):
            for bound in range(5):
                costs = {}
                for row in rows_to(machine, bound):
                    ends, price = does(machine, row), price_of(machine, row)
                    costs[ends] = min(price, costs.get(ends, price))
                self.right(machine, bound, costs)

    def test_against_all_least_costs(self):
        for machine in SMALL + tuple(some_machines(20, 25)):
            costs = least_costs(machine)
            for bound in range(13):
                self.right(machine, bound, costs)

    def test_a_machine_that_reaches_too_many_dearer_ones(self):
        for machine in (REACHES_255, REACHES_256, REACHES_257, EVERY_TURN):
            costs = least_costs(machine)
            for bound in range(13):
                if sum(price <= bound for price in costs.values()) <= 255:
                    self.right(machine, bound, costs)
                else:
                    self.assertIs(type(refusal_of(table, machine, bound)), TooMany)

    def test_255_and_256(self):
        costs = costs_to(TO_255, 10)
        self.assertEqual(sum(price <= 9 for price in costs.values()), 255)
        self.assertEqual(len(self.right(TO_255, 9, costs)), 255)
        costs = costs_to(TO_256, 11)
        self.assertEqual(sum(price <= 10 for price in costs.values()), 242)
        self.assertEqual(len(costs), 256)
        self.assertEqual(len(self.right(TO_256, 10, costs)), 242)
        for ask in (table, counts):
            for machine, first in ((TO_255, 10), (TO_256, 11)):
                self.assertIsNone(refusal_of(ask, machine, first - 1))
                for bound in range(first, 13):
                    self.assertIs(type(refusal_of(ask, machine, bound)), TooMany)

    def test_far_too_many(self):
        table_of_four = ((1, 2, 3, 0), (3, 0, 2, 1), (0, 3, 1, 2), (2, 1, 0, 3))
        machine = (4, 2, (
            ("join", 0, 1, table_of_four, 1), ("join", 1, 0, table_of_four, 1), ("turn", 0, (1, 2, 3, 0), 1),
            ("turn", 1, (1, 0, 2, 3), 1), ("turn", 0, (0, 0, 1, 2), 1), ("join", 1, 0, table_of_four[::-1], 1),
        ))
        for ask in (table, counts):
            self.assertIs(type(refusal_of(ask, machine, 12)), TooMany)
            self.assertIsNone(refusal_of(ask, machine, 2))

    def test_no_bound(self):
        for machine in MACHINES + (TO_255, EVERY_TURN):
            for thing in WRONG_BOUNDS:
                for ask in (table, counts):
                    self.assertIs(type(refusal_of(ask, machine, thing)), NoBound, thing)

    def test_no_machine_goes_first(self):
        for thing in NO_MACHINES:
            for bound in (0, 12, 13, -1, True, None, []):
                for ask in (table, counts):
                    self.assertIs(type(refusal_of(ask, thing, bound)), NoMachine)

    def test_the_askers_own_lists(self):
        for machine in (ALL_ON_ONE_PLACE, FOUR_WORDS):
            one, other = table(machine, 6), table(machine, 6)
            kept = copy.deepcopy(one)
            for place, line in enumerate(one):
                line[2].append(7)
                self.assertEqual(one[place + 1:], kept[place + 1:])
            one.clear()
            self.assertEqual(other, kept)
            self.assertEqual(table(machine, 6), kept)


class CountsTest(unittest.TestCase):
    def right(self, machine, bound, rows):
        told = counts(machine, bound)
        self.assertEqual((type(told), len(told)), (tuple, 2))
        self.assertEqual([type(part) for part in told], [list, list])
        self.assertEqual(told[0], rows)
        prices = [price for ends, price, row in table(machine, bound)]
        self.assertEqual(told[1], [sum(price == just for price in prices) for just in range(bound + 1)])
        for number in itertools.chain(*told):
            self.assertIs(type(number), int)

    def test_written_out(self):
        self.assertEqual(counts(TWO_WORDS_ONE_PLACE, 0), ([1], [1]))
        self.assertEqual(counts(TWO_WORDS_ONE_PLACE, 3), ([1, 1, 1, 1], [1, 1, 0, 0]))
        machine = (2, 1, (("turn", 0, (1, 0), 3), ("put", 0, 0, 2)))
        self.assertEqual(counts(machine, 7), ([1, 0, 1, 1, 1, 2, 2, 3], [1, 0, 1, 1, 0, 1, 0, 0]))
        machine = (4, 1, (("turn", 0, (1, 2, 3, 0), 3),))
        self.assertEqual(
            counts(machine, 12), ([1, 0, 0, 1, 0, 0, 1, 0, 0, 1, 0, 0, 1], [1, 0, 0, 1, 0, 0, 1, 0, 0, 1, 0, 0, 0]),
        )
        machine = (2, 1, (("move", 0, 0, 1), ("move", 0, 0, 2), ("move", 0, 0, 3)))
        self.assertEqual(
            counts(machine, 12), ([1, 1, 2, 4, 7, 13, 24, 44, 81, 149, 274, 504, 927], [1] + [0] * 12),
        )

    def test_deeds_that_all_cost_one(self):
        for many in range(1, 7):
            machine = (2, 1, (("turn", 0, (1, 0), 1),) + (("move", 0, 0, 1),) * (many - 1))
            for bound in range(13):
                self.right(machine, bound, [many ** price for price in range(bound + 1)])
        self.assertEqual(counts((3, 1, (("put", 0, 2, 1),) * 6), 12)[0][12], 2176782336)

    def test_six_deeds_of_all_costs(self):
        machine = (2, 2, (
            ("move", 0, 1, 2), ("move", 1, 0, 3), ("put", 0, 1, 1), ("put", 1, 0, 2), ("turn", 0, (1, 0), 2),
            ("move", 1, 1, 3),
        ))
        self.assertEqual(counts(machine, 5)[0], [1, 1, 1 + 3, 1 + 6 + 2, 1 + 9 + 9 + 4, 1 + 12 + 27 + 6 + 12])

    def test_against_every_row(self):
        for machine in SMALL + (ALL_ON_TWO_PLACES, EVERY_TURN):
            for bound in range(6 if len(machine[2]) < 6 else 5):
                prices = [price_of(machine, row) for row in rows_to(machine, bound)]
                self.right(machine, bound, [prices.count(just) for just in range(bound + 1)])

    def test_behaviours_are_those_of_the_table(self):
        for machine in SMALL + tuple(some_machines(21, 20)):
            costs = list(least_costs(machine).values())
            for bound in (0, 1, 5, 12):
                told = counts(machine, bound)
                self.right(machine, bound, told[0])
                self.assertEqual(told[1], [costs.count(just) for just in range(bound + 1)])
        self.assertEqual(sum(counts(TO_255, 9)[1]), 255)

    def test_the_askers_own_lists(self):
        one, other = counts(ALL_ON_ONE_PLACE, 5), counts(ALL_ON_ONE_PLACE, 5)
        kept = copy.deepcopy(one)
        one[0].clear()
        one[1].append(3)
        self.assertEqual(other, kept)
        self.assertEqual(counts(ALL_ON_ONE_PLACE, 5), kept)


if __name__ == "__main__":
    unittest.main()
