import copy
import random
import unittest

from leastdeeds.errors import NoMachine, NoWork, TooMany
from leastdeeds.least import closed, least, shows
from tests.plainly import (
    all_behaviours, closing, does, fits, led, least_costs, nothing_done, price_of, refusal_of, showing, some_machines,
    some_works, starts_of,
)
from tests.samples import (
    ALL_ON_ONE_PLACE, ALL_ON_TWO_PLACES, BACK_AND_FORTH, EVERY_TURN, FOUR_WORDS, MACHINES, NO_MACHINES, REACHES_254,
    REACHES_255, REACHES_256, REACHES_257, STRANGE, TO_255, TO_256, TWO_WORDS_ONE_PLACE, TWO_WORDS_TWO_PLACES,
)

SMALL = (TWO_WORDS_ONE_PLACE, ALL_ON_ONE_PLACE, FOUR_WORDS, TWO_WORDS_TWO_PLACES)
TOO_GREAT = (REACHES_256, REACHES_257, EVERY_TURN, TO_255, TO_256)

# One deed turns round, the other one skips a word for less than twice the cost.
ROUND = (4, 1, (("turn", 0, (1, 2, 3, 0), 2), ("turn", 0, (2, 3, 0, 1), 3)))
STAYS, ONE_ON, TWO_ON, THREE_ON = (tuple(((word + by) % 4,) for word in range(4)) for by in range(4))
ALL_NOUGHT = ((0,),) * 4

NO_BEHAVIOURS = (
    (), ((0,),), STAYS[:3], STAYS + ((0,),), ((),) * 4, ((0, 0),) * 4, ((0,), (1,), (2,), ()),
    ((0,), (1,), (2,), (3, 0)), ((0,), (1,), (2,), (4,)), ((-1,), (1,), (2,), (3,)), ((0,), (10 ** 20,), (2,), (3,)),
)


def loose(machine):
    return (None,) * len(starts_of(machine))


def words_of(machine, row):
    """The work that a row does and that leaves nothing open."""
    return tuple(end[0] for end in does(machine, row))


class LeastTest(unittest.TestCase):
    def right(self, machine, work, costs):
        """Hold what is told against all least costs; tell it."""
        told = least(machine, work)
        self.assertIs(type(told), tuple)
        prices = [costs[ends] for ends in costs if fits(ends, work)]
        if not prices:
            self.right_none(machine, work, told)
            return told
        sort, price, row, floors = told
        self.assertEqual((sort, price), ("row", min(prices)))
        self.assertEqual((type(price), type(row), type(floors)), (int, list, list))
        self.assertEqual(price_of(machine, row), price)
        self.assertTrue(fits(does(machine, row), work))
        for floor in floors:
            self.assertEqual((type(floor), type(floor[0]), type(floor[1])), (tuple, tuple, int))
        self.assertTrue(showing(machine, work, price, floors))
        self.assertIs(shows(machine, work, price, floors), True)
        self.assertIs(shows(machine, work, price + 1, floors), False)
        return told

    def right_none(self, machine, work, told):
        sort, behaviours = told
        self.assertEqual((sort, type(behaviours)), ("none", list))
        self.assertTrue(closing(machine, work, behaviours))
        self.assertIs(closed(machine, work, behaviours), True)

    def test_works_that_the_empty_row_does(self):
        for machine in SMALL + (REACHES_255, BACK_AND_FORTH):
            for work in (loose(machine), words_of(machine, []), words_of(machine, [])[:1] + loose(machine)[1:]):
                told = least(machine, work)
                self.assertEqual(told[:3], ("row", 0, []))
                self.assertIs(shows(machine, work, 0, told[3]), True)
                self.assertIs(shows(machine, work, 1, told[3]), False)

    def test_rows_of_one_deed(self):
        self.assertEqual(least(TWO_WORDS_ONE_PLACE, (1, 0))[:3], ("row", 1, [0]))
        self.assertEqual(least(TWO_WORDS_TWO_PLACES, (0, 1, 1, 0))[:3], ("row", 1, [0]))
        self.assertEqual(least(ALL_ON_ONE_PLACE, (2, 2, 2))[:3], ("row", 1, [3]))
        self.assertEqual(least(FOUR_WORDS, (None, 3) * 8)[:3], ("row", 1, [3]))
        self.assertEqual(least(ROUND, words_of(ROUND, [0]))[:3], ("row", 2, [0]))

    def test_a_dearer_deed_that_does_what_two_do(self):
        self.assertEqual(least(ROUND, words_of(ROUND, [0, 0]))[:3], ("row", 3, [1]))
        told = least(ROUND, words_of(ROUND, [0, 0, 0]))
        self.assertEqual(told[1], 5)
        self.assertIn(told[2], ([0, 1], [1, 0]))

    def test_fewer_deeds_may_be_dearer(self):
        machine = (4, 1, (("turn", 0, (2, 3, 0, 1), 3), ("turn", 0, (1, 2, 3, 0), 1)))
        self.assertEqual(least(machine, (2, 3, 0, 1))[:3], ("row", 2, [1, 1]))
        self.assertEqual(least(machine, (3, 0, 1, 2))[:3], ("row", 3, [1, 1, 1]))

    def test_of_the_same_deed_the_cheaper(self):
        machine = (2, 1, (("turn", 0, (1, 0), 3), ("turn", 0, (1, 0), 2), ("turn", 0, (1, 0), 1)))
        self.assertEqual(least(machine, (1, 0))[:3], ("row", 1, [2]))
        self.assertEqual(least(machine, (None, 0))[:3], ("row", 1, [2]))

    def test_a_way_past_costs_without_any_behaviour(self):
        machine = (4, 1, (("turn", 0, (1, 2, 3, 0), 3),))
        self.assertEqual(least(machine, (3, 0, 1, 2))[:3], ("row", 9, [0, 0, 0]))
        self.assertEqual(least(machine, (0, 0, 0, 0))[0], "none")

    def test_works_that_no_row_does(self):
        for machine, work in (
            (TWO_WORDS_ONE_PLACE, (0, 0)), (TWO_WORDS_ONE_PLACE, (1, 1)), (ROUND, (0, 0, None, None)),
            (TWO_WORDS_TWO_PLACES, (1, None, None, None)), (ALL_ON_ONE_PLACE, (0, 0, 1)),
        ):
            told = least(machine, work)
            self.assertEqual(len(told), 2)
            self.right_none(machine, work, told)

    def test_against_all_least_costs(self):
        for machine in SMALL + tuple(some_machines(7, 60)):
            costs = least_costs(machine)
            for work in some_works(machine, 8, 8):
                self.right(machine, work, costs)

    def test_every_work_of_little_machines(self):
        for machine in (ROUND, TWO_WORDS_ONE_PLACE, ALL_ON_ONE_PLACE, TWO_WORDS_TWO_PLACES):
            costs = least_costs(machine)
            for ends in costs:
                work = tuple(end[0] for end in ends)
                self.right(machine, work, costs)
                for place, word in enumerate(work):
                    self.right(machine, work[:place] + (None,) + work[place + 1:], costs)
                    self.right(machine, (None,) * place + (word,) + (None,) * (len(work) - place - 1), costs)

    def test_rows_of_more_than_forty_deeds(self):
        costs = least_costs(BACK_AND_FORTH)
        self.assertEqual((len(costs), max(costs.values())), (240, 120))
        for long in (39, 40, 41, 60, 100, 120):
            row = [place % 2 for place in range(long)]
            work = words_of(BACK_AND_FORTH, row)
            told = self.right(BACK_AND_FORTH, work, costs)
            if long > 40:
                self.assertGreater(len(told[2]), 40)

    def test_two_places_and_four_words(self):
        for machine, many in ((REACHES_254, 254), (REACHES_255, 255), (BACK_AND_FORTH, 240)):
            costs = least_costs(machine)
            self.assertEqual(len(costs), many)
            for work in some_works(machine, 9, 12):
                self.right(machine, work, costs)

    def test_too_many(self):
        self.assertEqual(len(all_behaviours(REACHES_255)), 255)
        self.assertEqual(len(all_behaviours(REACHES_256)), 256)
        self.assertEqual(len(all_behaviours(REACHES_257)), 257)
        self.assertEqual(len(all_behaviours(EVERY_TURN)), 256)
        for machine in TOO_GREAT + (ALL_ON_TWO_PLACES,):
            for work in [loose(machine), words_of(machine, []), words_of(machine, [0])] + some_works(machine, 1, 3):
                self.assertIs(type(refusal_of(least, machine, work)), TooMany)
        for machine in (REACHES_254, REACHES_255):
            self.assertIsNone(refusal_of(least, machine, loose(machine)))
            self.assertIsNone(refusal_of(least, machine, (0,) * 16))

    def test_no_work_goes_ahead_of_too_many(self):
        for machine in SMALL + TOO_GREAT:
            long = len(starts_of(machine))
            for thing in STRANGE + (
                (0,) * (long - 1), (0,) * (long + 1), [0] * long, (0,) * (long - 1) + (True,),
                (None,) * (long - 1) + (machine[0],), (-1,) + (None,) * (long - 1), "0" * long, nothing_done(machine),
            ):
                for ask, more in ((least, ()), (shows, (0, [])), (closed, ([],))):
                    self.assertIs(type(refusal_of(ask, machine, thing, *more)), NoWork, (ask, thing))

    def test_no_machine_goes_first(self):
        for thing in NO_MACHINES:
            for work in ((0, 1), None, ()):
                for ask, more in ((least, ()), (shows, (0, [])), (closed, ([],))):
                    self.assertIs(type(refusal_of(ask, thing, work, *more)), NoMachine, (ask, thing))

    def test_told_again(self):
        for machine, work in (
            (ROUND, (3, 0, 1, 2)), (ROUND, (0, 0, 0, 0)), (ROUND, (0, 1, 2, 3)), (FOUR_WORDS, (3,) * 16),
        ):
            told = least(machine, work)
            other = least(machine, work)
            kept = copy.deepcopy(told)
            for part in told:
                if isinstance(part, list):
                    part.clear()
            self.assertEqual(other, kept)
            self.assertEqual(least(machine, work), kept)


class ShowsTest(unittest.TestCase):
    """Of ROUND, mostly of the work that three steps on do, whose least cost is 5."""

    WORK = (3, 0, 1, 2)
    FULL = [(STAYS, 5), (ONE_ON, 3), (TWO_ON, 2)]

    def shown(self, number, floors, work=WORK, machine=ROUND):
        self.assertTrue(showing(machine, work, number, floors))
        kept = copy.deepcopy(floors)
        self.assertIs(shows(machine, work, number, floors), True, floors)
        self.assertEqual(floors, kept)

    def unshown(self, number, floors, work=WORK, machine=ROUND):
        kept = copy.deepcopy(floors)
        self.assertIs(shows(machine, work, number, floors), False, floors)
        self.assertEqual(floors, kept)

    def test_this_number_or_a_smaller_one(self):
        for number in (5, 4, 1, 0, -1, -100, -10 ** 30):
            self.shown(number, self.FULL)
            self.shown(number, self.FULL[::-1])
        for number in (6, 7, 10 ** 30):
            self.unshown(number, self.FULL)

    def test_the_empty_row_is_not_there(self):
        for number in (5, 1, 0, -1, -10 ** 30):
            self.unshown(number, [])
            self.unshown(number, self.FULL[1:])
            self.unshown(number, [(ONE_ON, 0)])
            self.unshown(number, [(ALL_NOUGHT, 0), (THREE_ON, -1)])

    def test_the_empty_row_with_nought_or_less(self):
        for floor in (0, -1, -2, -50):
            self.shown(floor, [(STAYS, floor)])
            self.shown(floor - 1, [(STAYS, floor)])
            self.unshown(floor + 1, [(STAYS, floor)])
            self.unshown(1, [(STAYS, floor)])

    def test_numbers_that_no_deed_outlives(self):
        self.shown(1, [(STAYS, 1)])
        self.shown(2, [(STAYS, 2)])
        self.unshown(3, [(STAYS, 3)])
        self.unshown(2, [(STAYS, 3)])
        self.shown(3, [(STAYS, 3), (ONE_ON, 1)])
        self.unshown(4, [(STAYS, 4), (ONE_ON, 2)])
        self.unshown(4, [(STAYS, 4), (ONE_ON, 1), (TWO_ON, 1)])
        self.shown(4, [(STAYS, 4), (ONE_ON, 2), (TWO_ON, 1)])

    def test_one_that_does_the_work(self):
        for floor in (1, 2, 10 ** 20):
            self.unshown(5, self.FULL + [(THREE_ON, floor)])
            self.unshown(-9, self.FULL + [(THREE_ON, floor)])
        for floor in (0, -1, -10 ** 20):
            self.shown(5, self.FULL + [(THREE_ON, floor)])
        self.unshown(1, [(STAYS, 1)], work=(0, 1, 2, 3))
        self.unshown(0, [(STAYS, 1)], work=(None,) * 4)
        self.shown(0, [(STAYS, 0)], work=(0, 1, 2, 3))
        self.shown(0, [(STAYS, 0)], work=(None,) * 4)
        self.unshown(1, [(STAYS, 1)], work=(None, None, 2, None))
        self.shown(1, [(STAYS, 1)], work=(None, None, 1, None))

    def test_a_behaviour_left_out_or_too_small(self):
        for place in (1, 2):
            ends, floor = self.FULL[place]
            others = self.FULL[:place] + self.FULL[place + 1:]
            for number in (5, 0, -3):
                self.unshown(number, others)
                for smaller in (floor - 1, 0, -1, -7):
                    self.unshown(number, others + [(ends, smaller)])

    def test_a_behaviour_with_more_than_is_asked(self):
        # Two on with 3 leads by the dearer deed to the empty row's with 0, by the cheaper to the work with 1.
        self.unshown(5, [(STAYS, 5), (ONE_ON, 3), (TWO_ON, 3)])
        self.shown(4, [(STAYS, 4), (ONE_ON, 3), (TWO_ON, 2)])
        self.unshown(4, [(STAYS, 4), (ONE_ON, 4), (TWO_ON, 2)])

    def test_too_great_ones(self):
        self.unshown(5, [(STAYS, 6), (ONE_ON, 3), (TWO_ON, 2)])
        self.unshown(5, [(STAYS, 10 ** 30), (ONE_ON, 10 ** 30), (TWO_ON, 10 ** 30)])

    def test_a_work_that_none_does_has_any_floor(self):
        work = (0, 0, 0, 0)
        for floor in (1, 5, 1000, 10 ** 30):
            self.shown(floor, [(ends, floor) for ends in (STAYS, ONE_ON, TWO_ON, THREE_ON)], work)
            self.unshown(floor + 1, [(ends, floor) for ends in (STAYS, ONE_ON, TWO_ON, THREE_ON)], work)

    def test_below_nought_nothing_is_asked_of_what_a_deed_leads_to(self):
        self.shown(2, [(STAYS, 2), (ONE_ON, -5), (TWO_ON, -5), (THREE_ON, -5)])
        self.shown(1, [(STAYS, 1), (ONE_ON, -1)])
        self.shown(0, [(STAYS, 0), (ONE_ON, -1)])

    def test_the_same_one_twice(self):
        self.shown(5, self.FULL + self.FULL)
        for low in (4, 1, 0, -3):
            for twice in ((STAYS, low), (ONE_ON, min(low, 3)), (TWO_ON, min(low, 2))):
                self.shown(5, self.FULL + [twice])
                self.shown(5, [twice] + self.FULL)
                self.unshown(6, [twice] + self.FULL)
        self.unshown(0, [(STAYS, 0), (STAYS, 3)])
        self.unshown(0, [(STAYS, 3), (STAYS, 0)])
        self.unshown(1, [(STAYS, 1), (STAYS, 3)])
        self.unshown(0, [(STAYS, 0), (THREE_ON, 0), (THREE_ON, 1)])
        self.unshown(0, [(STAYS, 0), (THREE_ON, 1), (THREE_ON, 0)])
        self.unshown(5, self.FULL + [(ONE_ON, 9)])
        self.unshown(5, [(ONE_ON, 9)] + self.FULL)

    def test_behaviours_that_no_row_has(self):
        self.shown(5, self.FULL + [(ALL_NOUGHT, 2)])
        self.shown(5, self.FULL + [(ALL_NOUGHT, -2)])
        self.unshown(5, self.FULL + [(ALL_NOUGHT, 3)])
        self.unshown(5, self.FULL + [(((3,), (0,), (1,), (3,)), 6)])
        self.shown(5, self.FULL + [(ALL_NOUGHT, 3), (((1,),) * 4, 1)])
        self.unshown(5, self.FULL + [(ALL_NOUGHT, 1)], work=(None, 0, None, None))

    def test_tuples_that_are_no_behaviours(self):
        for wrong in NO_BEHAVIOURS:
            for floor in (5, 1, 0, -1, -10 ** 20):
                for number in (5, 0, -10 ** 30):
                    self.unshown(number, self.FULL + [(wrong, floor)])
                    self.unshown(number, [(wrong, floor)] + self.FULL)
                    self.unshown(number, [(wrong, floor)])

    def test_a_truth_for_a_word_is_no_word(self):
        self.unshown(0, [(STAYS, 0), (((True,), (1,), (2,), (3,)), 0)])
        self.unshown(0, [(((0,), (True,), (2,), (3,)), 0)])

    def test_two_places(self):
        machine = TWO_WORDS_TWO_PLACES
        nothing = nothing_done(machine)
        work = (0, 1, 0, 1)
        one, two = does(machine, [0]), does(machine, [1])
        self.shown(2, [(nothing, 2), (one, 1), (two, 1)], work, machine)
        self.unshown(2, [(nothing, 2), (one, 1)], work, machine)
        for wrong in (tuple(end[:1] for end in nothing), nothing[:2], tuple(end + (0,) for end in nothing)):
            self.unshown(2, [(nothing, 2), (one, 1), (two, 1), (wrong, 0)], work, machine)

    def test_machines_that_reach_too_many(self):
        for machine in TOO_GREAT:
            work = ((machine[0] - 1,) + (None,) * (len(starts_of(machine)) - 1))
            self.shown(1, [(nothing_done(machine), 1)], work, machine)
            self.unshown(2, [(nothing_done(machine), 1)], work, machine)

    def test_against_plain_words(self):
        chance = random.Random(10)
        told = {True: 0, False: 0}
        for machine in SMALL + tuple(some_machines(11, 40, 40)):
            costs = least_costs(machine)
            for work in some_works(machine, 12, 6):
                best = min([costs[ends] for ends in costs if fits(ends, work)], default=7)
                floors = [(ends, best - costs[ends]) for ends in costs if costs[ends] <= best]
                for _ in range(8):
                    changed = list(floors)
                    for _ in range(chance.randint(0, 2)):
                        place = chance.randrange(len(floors))
                        ends, floor = floors[place]
                        other = led(chance.choice(machine[2]), tuple(chance.sample(ends, len(ends))))
                        changed.append(chance.choice((
                            (ends, floor + chance.randint(-2, 1)), (other, chance.randint(-2, 3)),
                            (ends[1:], 0) if chance.random() < 0.2 else (ends, -floor),
                        )))
                        if chance.random() < 0.4:
                            changed.remove(chance.choice(changed))
                    number = best + chance.randint(-3, 1)
                    shown = showing(machine, work, number, changed)
                    told[shown] += 1
                    self.assertIs(shows(machine, work, number, changed), shown)
        self.assertGreater(min(told.values()), 100)


class ClosedTest(unittest.TestCase):
    WORK = (0, 0, None, None)
    FULL = [STAYS, ONE_ON, TWO_ON, THREE_ON]

    def is_closed(self, behaviours, work=WORK, machine=ROUND):
        self.assertTrue(closing(machine, work, behaviours))
        kept = copy.deepcopy(behaviours)
        self.assertIs(closed(machine, work, behaviours), True, behaviours)
        self.assertEqual(behaviours, kept)

    def is_not(self, behaviours, work=WORK, machine=ROUND):
        kept = copy.deepcopy(behaviours)
        self.assertIs(closed(machine, work, behaviours), False, behaviours)
        self.assertEqual(behaviours, kept)

    def test_all_that_rows_reach(self):
        self.is_closed(self.FULL)
        self.is_closed(self.FULL[::-1])
        self.is_closed(self.FULL + self.FULL)

    def test_the_empty_list(self):
        for machine in MACHINES:
            self.is_not([], (0,) * len(starts_of(machine)), machine)

    def test_one_left_out(self):
        for place in range(4):
            self.is_not(self.FULL[:place] + self.FULL[place + 1:])
        for ends in self.FULL:
            self.is_not([ends])

    def test_closed_but_without_the_empty_row(self):
        machine = (2, 1, (("put", 0, 0, 1),))
        self.is_not([((0,), (0,))], (1, None), machine)
        self.is_closed([((0,), (0,)), ((0,), (1,))], (1, None), machine)
        self.is_not([((0,), (1,))], (1, None), machine)

    def test_one_that_does_the_work(self):
        for by in range(4):
            work = tuple((word + by) % 4 for word in range(4))
            self.is_not(self.FULL, work)
            self.is_not(self.FULL, work[:1] + (None,) * 3)
        self.is_not(self.FULL, (None,) * 4)
        self.is_closed(self.FULL, (None, None, 2, 2))

    def test_more_than_rows_reach(self):
        nought = [((word,),) * 4 for word in range(4)]
        self.is_closed(self.FULL + nought, (0, 0, 1, 1))
        self.is_closed(nought + self.FULL, (0, 0, 1, 1))
        self.is_not(self.FULL + nought[:3], (0, 0, 1, 1))
        self.is_not(self.FULL + nought, (0, 0, None, None))

    def test_things_that_are_no_behaviours(self):
        for wrong in NO_BEHAVIOURS + (((0,), (True,), (2,), (3,)),):
            self.is_not(self.FULL + [wrong])
            self.is_not([wrong] + self.FULL)
            self.is_not([wrong])
            self.is_not(self.FULL[1:] + [wrong])

    def test_two_places(self):
        machine = TWO_WORDS_TWO_PLACES
        full = all_behaviours(machine)
        work = (1, None, None, None)
        self.is_closed(full, work, machine)
        for place in range(len(full)):
            self.is_not(full[:place] + full[place + 1:], work, machine)
        self.is_not(full + [tuple(end[:1] for end in full[0])], work, machine)
        self.is_not(full, (0, None, None, None), machine)

    def test_a_machine_that_reaches_too_many(self):
        full = all_behaviours(EVERY_TURN)
        self.assertIs(closed(EVERY_TURN, (0, 0, 0, 1), full), False)
        full = all_behaviours(REACHES_257)
        lacking = [
            work for work in some_works(REACHES_257, 13, 40) if not any(fits(ends, work) for ends in full)
        ]
        self.assertTrue(lacking)
        for work in lacking:
            self.is_closed(full, work, REACHES_257)
            self.is_not(full[:-1], work, REACHES_257)

    def test_against_plain_words(self):
        chance = random.Random(14)
        told = {True: 0, False: 0}
        for machine in SMALL + tuple(some_machines(15, 40, 30)):
            full = all_behaviours(machine)
            for work in some_works(machine, 16, 8):
                for _ in range(4):
                    changed = list(full)
                    if chance.random() < 0.4:
                        changed.remove(chance.choice(changed))
                    if chance.random() < 0.4:
                        ends = chance.choice(full)
                        changed.append(chance.choice((ends, tuple(chance.sample(ends, len(ends))), ends[:-1])))
                    shown = closing(machine, work, changed)
                    told[shown] += 1
                    self.assertIs(closed(machine, work, changed), shown)
        self.assertGreater(min(told.values()), 50)


if __name__ == "__main__":
    unittest.main()
