import copy
import random
import unittest

from leastdeeds.errors import NoBound, NoMachine, NoRow, TooLong, TooMany
from leastdeeds.mending import made_by, mended
from tests.plain_rows import dear_windows, what_steps_make
from tests.plainly import does, least_costs, price_of, refusal_of, rows_to, some_machines
from tests.samples import (
    ALL_ON_ONE_PLACE, ALL_ON_TWO_PLACES, BACK_AND_FORTH, EVERY_TURN, FOUR_WORDS, MACHINES, NO_MACHINES, REACHES_254,
    REACHES_255, REACHES_256, REACHES_257, STRANGE, TO_255, TO_256, TWO_WORDS_ONE_PLACE, TWO_WORDS_TWO_PLACES,
)

SMALL = (TWO_WORDS_ONE_PLACE, ALL_ON_ONE_PLACE, FOUR_WORDS, TWO_WORDS_TWO_PLACES)
TOO_GREAT = (REACHES_256, REACHES_257, EVERY_TURN, TO_255, TO_256, ALL_ON_TWO_PLACES)
WRONG_MOSTS = STRANGE + (0, 7, 8, 12, -6, "6", (1,), [6], ((1,), 2), 2 ** 64)

# The first deed costs more than the two that do the same; four of the second one do nothing.
DEAR_FIRST = (4, 1, (("turn", 0, (2, 3, 0, 1), 3), ("turn", 0, (1, 2, 3, 0), 1)))
# Each deed is undone by itself; the third one does the same as the first one for less.
UNDONE = (2, 2, (("turn", 0, (1, 0), 3), ("turn", 1, (1, 0), 2), ("turn", 0, (1, 0), 1), ("move", 0, 0, 1)))
# Just so many of the one deed do nothing. Of the last one: two go round by the other's word 1, three by its word 0.
ROUND_IN = {
    2: (2, 1, (("turn", 0, (1, 0), 1),)),
    3: (3, 1, (("turn", 0, (1, 2, 0), 1),)),
    4: (4, 1, (("turn", 0, (1, 2, 3, 0), 1),)),
    6: (3, 2, (("join", 0, 1, ((1, 1, 0), (2, 0, 1), (0, 2, 2)), 3),)),
}
# Two deeds of which no two that are unlike give way to one another.
SWAPS = (3, 1, (("turn", 0, (1, 0, 2), 1), ("turn", 0, (0, 2, 1), 1)))


def some_row(chance, machine, longest=12):
    return [chance.randrange(len(machine[2])) for _ in range(chance.randint(0, longest))]


class MendedTest(unittest.TestCase):
    def right(self, machine, row, most, costs):
        """Hold what is told against the plain words; tell it."""
        kept = list(row)
        told = mended(machine, row, most)
        self.assertEqual(row, kept)
        self.assertEqual((type(told), len(told)), (tuple, 2))
        made, steps = told
        self.assertEqual((type(made), type(steps)), (list, list))
        for step in steps:
            self.assertEqual((type(step), [type(part) for part in step]), (tuple, [int, int, list]))
        self.assertEqual(what_steps_make(machine, row, most, steps), made)
        self.assertEqual(made_by(machine, row, most, steps), made)
        self.assertEqual(dear_windows(machine, costs, made, most), [])
        self.assertEqual(does(machine, made), does(machine, row))
        self.assertLessEqual(price_of(machine, made) + len(steps), price_of(machine, row))
        return told

    def test_written_out(self):
        self.assertEqual(mended(TWO_WORDS_ONE_PLACE, [], 1), ([], []))
        self.assertEqual(mended(TWO_WORDS_ONE_PLACE, [0], 6), ([0], []))
        self.assertEqual(mended(TWO_WORDS_ONE_PLACE, [0, 0], 1), ([0, 0], []))
        self.assertEqual(mended(TWO_WORDS_ONE_PLACE, [0, 0], 2), ([], [(0, 2, [])]))
        self.assertEqual(mended(DEAR_FIRST, [0], 1), ([1, 1], [(0, 1, [1, 1])]))
        self.assertEqual(mended(UNDONE, [0, 1], 1)[0], [2, 1])
        self.assertEqual(mended(UNDONE, [3], 1), ([], [(0, 1, [])]))

    def test_a_window_of_one_deed(self):
        self.assertEqual(mended(DEAR_FIRST, [1, 0, 1], 1)[0], [1, 1, 1, 1])
        self.assertEqual(mended(DEAR_FIRST, [1, 1, 1, 1], 1), ([1, 1, 1, 1], []))
        self.assertEqual(mended(DEAR_FIRST, [1, 1, 1, 1], 3), ([1, 1, 1, 1], []))
        self.assertEqual(mended(DEAR_FIRST, [1, 1, 1, 1], 4)[0], [])

    def test_windows_just_so_long_and_no_longer(self):
        for long, machine in ROUND_IN.items():
            for many in range(13):
                for most in range(1, 7):
                    row = [0] * many
                    left = [0] * (many % long) if most >= long else row
                    self.assertEqual(mended(machine, row, most)[0], left)

    def test_windows_of_three_to_six_deeds(self):
        # Three deeds in turns are the same as three that begin with the other one, four as two, six as none.
        costs = least_costs(SWAPS)
        row = [0, 1, 0, 1, 0, 1]
        self.assertEqual(mended(SWAPS, row, 3), (row, []))
        self.assertEqual(price_of(SWAPS, mended(SWAPS, row, 4)[0]), 0)
        for most in range(1, 7):
            for long in range(13):
                self.right(SWAPS, [place % 2 for place in range(long)], most, costs)

    def test_a_window_at_the_row_s_end_and_at_its_beginning(self):
        costs = least_costs(UNDONE)
        for long in range(1, 13):
            for dear in (0, 3):
                for place in range(long):
                    row = ([1, 2] * 6)[:long]
                    row[place] = dear
                    made, steps = self.right(UNDONE, row, 1, costs)
                    self.assertNotIn(dear, made)
                    self.assertEqual([step[0] for step in steps], [place])

    def test_the_row_may_come_to_have_more_deeds(self):
        made, steps = mended(DEAR_FIRST, [0] * 12, 1)
        self.assertEqual((made, len(steps)), ([1] * 24, 12))
        self.assertEqual(made_by(DEAR_FIRST, [0] * 12, 1, steps), made)
        self.right(DEAR_FIRST, [0] * 12, 6, least_costs(DEAR_FIRST))
        table = tuple(tuple((own + by) % 4 for by in range(4)) for own in range(4))
        machine = (4, 2, (("join", 0, 1, table, 3), ("turn", 0, (1, 2, 3, 0), 1), ("turn", 1, (1, 2, 3, 0), 1)))
        self.right(machine, [0, 1, 2] * 4, 6, least_costs(machine))

    def test_one_step_opens_the_way_for_another(self):
        for row in ([0, 1, 1, 0], [0, 0, 1, 1], [1, 0, 1, 1, 0, 1], [0, 1, 0, 1, 1, 0, 1, 0], [1, 0, 0, 1, 0, 0]):
            made, steps = self.right(SWAPS, row, 2, least_costs(SWAPS))
            self.assertEqual((made, len(steps)), ([], len(row) // 2))

    def test_every_short_row(self):
        for machine in SMALL + (DEAR_FIRST, UNDONE):
            costs = least_costs(machine)
            for row in rows_to(machine, 3):
                for most in (1, 2, 3, 6):
                    made, steps = self.right(machine, row, most, costs)
                    if max(len(row), len(made)) <= most:
                        self.assertEqual(price_of(machine, made), costs[does(machine, row)])

    def test_long_rows_of_many_machines(self):
        chance = random.Random(30)
        for machine in SMALL + (REACHES_254, REACHES_255, BACK_AND_FORTH) + tuple(some_machines(31, 40)):
            costs = least_costs(machine)
            for most in range(1, 7):
                self.right(machine, some_row(chance, machine), most, costs)
                self.right(machine, [chance.randrange(len(machine[2])) for _ in range(12)], most, costs)

    def test_no_deeds_and_twelve(self):
        for machine in SMALL + (REACHES_255,):
            costs = least_costs(machine)
            for most in range(1, 7):
                self.assertEqual(mended(machine, [], most), ([], []))
                for number in range(len(machine[2])):
                    self.right(machine, [number] * 12, most, costs)

    def test_lists_of_the_asker_s_own(self):
        for machine, row, most in ((DEAR_FIRST, [0] * 12, 1), (UNDONE, [0, 1, 0, 1], 1), (UNDONE, [1], 6)):
            told, other = mended(machine, row, most), mended(machine, row, most)
            kept = copy.deepcopy(told)
            # A list that stands in two steps, or in a step and in the row, would change twice.
            for place, step in enumerate(told[1]):
                step[2].append(7)
                self.assertEqual(told[1][place + 1:], kept[1][place + 1:])
                self.assertEqual(told[0], kept[0])
            told[0].append(9)
            self.assertEqual(row, [number for number in row if number < 4])
            told[1].clear()
            self.assertEqual(other, kept)
            self.assertEqual(mended(machine, row, most), kept)

    def test_the_row_that_is_handed_in_is_not_told(self):
        row = [1, 2]
        made, steps = mended(UNDONE, row, 6)
        made.append(0)
        self.assertEqual(row, [1, 2])
        row.append(3)
        self.assertEqual(made, [1, 2, 0])

    def test_too_many(self):
        for machine in TOO_GREAT:
            for row in ([], [0], [0, 1] * 6):
                for most in (1, 6):
                    self.assertIs(type(refusal_of(mended, machine, row, most)), TooMany)
        for machine in (REACHES_254, REACHES_255):
            self.assertIsNone(refusal_of(mended, machine, [0, 1] * 6, 6))


class RefusedTest(unittest.TestCase):
    """What mended and made_by refuse alike."""

    def refused(self, machine, row, most, sort, place=None):
        for ask, more in ((mended, ()), (made_by, ([],)), (made_by, ([(0, 1, [])],))):
            refusal = refusal_of(ask, machine, row, most, *more)
            self.assertIs(type(refusal), sort, (machine, row, most))
            if place is not None:
                self.assertEqual(refusal.place, place)

    def test_no_bound(self):
        for machine in SMALL + TOO_GREAT:
            for thing in WRONG_MOSTS:
                for row in ([], [0], [0] * 12):
                    self.refused(machine, row, thing, NoBound)

    def test_bounds_from_1_to_6(self):
        for most in range(1, 7):
            self.assertIsNone(refusal_of(mended, UNDONE, [0, 1], most))
            self.assertIsNone(refusal_of(made_by, UNDONE, [0, 1], most, []))

    def test_twelve_and_thirteen_and_forty_and_forty_one(self):
        for machine in SMALL + TOO_GREAT:
            for long in (13, 14, 39, 40, 41, 99):
                for most in (1, 6, 0, 7, True, None):
                    self.refused(machine, [0] * long, most, TooLong)
            self.assertIsNone(refusal_of(made_by, machine, [0] * 12, 6, []))

    def test_no_row(self):
        for machine in MACHINES + TOO_GREAT:
            for thing in STRANGE + (len(machine[2]), len(machine[2]) + 1):
                for long in (0, 3, 12, 40, 45):
                    self.refused(machine, [0] * long + [thing, 9], 6, NoRow, long)
                self.refused(machine, [0, thing], 0, NoRow, 1)
            for thing in (None, True, 0, "", "0", "-", (), (0,), ((0,),)):
                for most in (1, 7):
                    self.refused(machine, thing, most, NoRow, 0)

    def test_no_machine_goes_first(self):
        for thing in NO_MACHINES:
            for row, most in (([], 1), ([True], 1), ([0] * 13, 6), ([0] * 41, 0), ([0], 9), (None, None)):
                self.refused(thing, row, most, NoMachine)

    def test_no_bound_goes_ahead_of_too_many(self):
        for machine in TOO_GREAT:
            self.assertIs(type(refusal_of(mended, machine, [0], 7)), NoBound)
            self.assertIs(type(refusal_of(mended, machine, [0] * 13, 6)), TooLong)
            self.assertIs(type(refusal_of(mended, machine, [0, True], 6)), NoRow)


class MadeByTest(unittest.TestCase):
    def made(self, machine, row, most, steps, wanted):
        kept = copy.deepcopy((row, steps))
        told = made_by(machine, row, most, steps)
        self.assertEqual(told, wanted, (row, most, steps))
        self.assertIs(type(told), type(wanted))
        self.assertEqual((row, steps), kept)

    def test_no_steps(self):
        for machine in MACHINES + TOO_GREAT:
            for row in ([], [0], [0] * 12):
                self.made(machine, row, 1, [], row)
                self.assertIsNot(made_by(machine, row, 1, []), row)

    def test_written_out(self):
        self.made(UNDONE, [0], 1, [(0, 1, [2])], [2])
        self.made(UNDONE, [1, 0, 1], 1, [(1, 1, [2])], [1, 2, 1])
        self.made(UNDONE, [0, 0], 2, [(0, 2, [])], [])
        self.made(UNDONE, [1, 0, 0, 1], 2, [(1, 2, []), (0, 2, [])], [])
        self.made(UNDONE, [0, 1], 2, [(0, 2, [1, 2])], [1, 2])
        self.made(UNDONE, [0, 1], 2, [(0, 2, [3, 1, 2])], [3, 1, 2])
        self.made(DEAR_FIRST, [0, 0], 1, [(1, 1, [1, 1]), (0, 1, [1, 1])], [1, 1, 1, 1])

    def test_what_is_cheaper_need_not_be_the_cheapest(self):
        self.made(UNDONE, [0, 0], 2, [(0, 2, [2, 2])], [2, 2])
        self.made(UNDONE, [0, 0], 2, [(0, 2, [2, 0])], [2, 0])
        self.made(UNDONE, [0, 0], 2, [(0, 2, [2, 2]), (0, 2, [])], [])
        self.made(UNDONE, [0, 0], 1, [(1, 1, [3, 2])], [0, 3, 2])

    def test_no_window(self):
        for place, long in (
            (-1, 1), (-2, 2), (2, 1), (1, 2), (0, 3), (3, 1), (0, 0), (1, 0), (2, 0), (0, -1), (1, -1), (2, -1),
            (10 ** 30, 1), (0, 10 ** 30), (-10 ** 30, 1), (0, -10 ** 30), (-1, 3), (2, -2),
        ):
            for put in ([], [2], [2, 2]):
                self.made(UNDONE, [0, 0], 6, [(place, long, put)], None)
        self.made(UNDONE, [], 6, [(0, 1, [])], None)
        self.made(UNDONE, [], 6, [(0, 0, [])], None)

    def test_a_place_or_a_length_that_is_no_whole_number(self):
        for thing in (True, False, None, "0", "1", [], [1], (1,), ()):
            self.made(UNDONE, [0, 0], 6, [(thing, 1, [2])], None)
            self.made(UNDONE, [0, 0], 6, [(0, thing, [2])], None)

    def test_a_window_longer_than_most(self):
        for long in range(1, 7):
            row = [0] * 12
            put = [2] * long
            for most in range(1, 7):
                wanted = put + [0] * (12 - long) if long <= most else None
                self.made(UNDONE, row, most, [(0, long, put)], wanted)
        self.made(UNDONE, [0] * 7, 6, [(0, 7, [2] * 7)], None)
        self.made(UNDONE, [0] * 12, 6, [(0, 12, [])], None)

    def test_no_row_of_the_machine(self):
        for thing in STRANGE + (4, 5, 6):
            self.made(UNDONE, [0], 1, [(0, 1, [thing])], None)
            self.made(UNDONE, [0], 1, [(0, 1, [2, thing])], None)
            self.made(UNDONE, [0], 1, [(0, 1, [thing, 2])], None)
        for thing in (None, 2, "2", (2,), True, ()):
            self.made(UNDONE, [0], 1, [(0, 1, thing)], None)

    def test_a_truth_is_no_deed_s_number(self):
        self.made(DEAR_FIRST, [0], 1, [(0, 1, [True, True])], None)
        self.made(DEAR_FIRST, [0], 1, [(0, 1, [1, True])], None)
        self.made(ROUND_IN[2], [0, 0, 0], 3, [(0, 3, [False])], None)
        self.made(ROUND_IN[2], [0, 0, 0], 3, [(0, 3, [0])], [0])

    def test_not_alike(self):
        self.made(UNDONE, [0], 1, [(0, 1, [1])], None)
        self.made(UNDONE, [0], 1, [(0, 1, [3])], None)
        self.made(UNDONE, [0], 1, [(0, 1, [])], None)
        self.made(UNDONE, [0, 1], 2, [(0, 2, [2])], None)
        # All rows are alike behind the put at the end, but it is the window that counts.
        machine = (2, 1, (("turn", 0, (1, 0), 2), ("put", 0, 0, 1), ("turn", 0, (0, 1), 1)))
        self.made(machine, [0, 1], 2, [(0, 1, [])], None)
        self.made(machine, [0, 1], 2, [(0, 2, [1])], [1])

    def test_parted_at_one_beginning_alone(self):
        for words in (2, 3, 4):
            last = words - 1
            keep = tuple((word,) * words for word in range(words))
            turn = keep[:last] + ((last,) * last + (0,),)
            for places in (1, 2):
                machine = (words, places, (("join", 0, places - 1, turn, 3), ("move", 0, 0, 2), ("move", 0, 0, 1)))
                self.made(machine, [0], 1, [(0, 1, [])], None)
                self.made(machine, [0], 1, [(0, 1, [1])], None)
                self.made(machine, [1], 1, [(0, 1, [2])], [2])
                self.made(machine, [1, 0], 1, [(0, 1, [])], [0])

    def test_not_cheaper(self):
        self.made(UNDONE, [2], 1, [(0, 1, [2])], None)
        self.made(UNDONE, [2], 1, [(0, 1, [0])], None)
        self.made(UNDONE, [0], 1, [(0, 1, [0])], None)
        self.made(UNDONE, [0], 1, [(0, 1, [2, 3, 3])], None)
        self.made(UNDONE, [0], 1, [(0, 1, [2, 3])], [2, 3])
        self.made(UNDONE, [0, 1], 2, [(0, 2, [1, 0])], None)
        self.made(UNDONE, [3], 1, [(0, 1, [3])], None)
        self.made(UNDONE, [1, 1], 2, [(0, 2, [2, 2, 3, 3])], None)
        self.made(UNDONE, [1, 1], 2, [(0, 2, [2, 2, 3])], [2, 2, 3])

    def test_what_is_put_in_may_be_of_any_length_but_costs_too_much(self):
        for long in (17, 18, 40, 41, 42, 1000):
            self.made(UNDONE, [0] * 6, 6, [(0, 6, [3] * long)], [3] * long if long < 18 else None)

    def test_steps_are_done_one_behind_the_other(self):
        # The row is longer, then shorter, than the one that was handed in.
        self.made(DEAR_FIRST, [0], 4, [(0, 1, [1, 1]), (1, 1, [])], None)
        self.made(DEAR_FIRST, [0, 0], 4, [(1, 1, [1, 1]), (0, 1, [1, 1]), (0, 4, [])], [])
        self.made(DEAR_FIRST, [0, 0], 4, [(0, 4, [])], None)
        self.made(UNDONE, [0, 0, 0], 2, [(0, 2, []), (0, 1, [2])], [2])
        self.made(UNDONE, [0, 0, 0], 2, [(0, 2, []), (2, 1, [2])], None)
        self.made(UNDONE, [0, 0, 0], 2, [(2, 1, [2]), (0, 2, [])], [2])

    def test_a_wrong_step_among_right_ones(self):
        right = [(0, 1, [2]), (1, 1, [2]), (2, 1, [2])]
        self.made(UNDONE, [0, 0, 0], 1, right, [2, 2, 2])
        for place in range(4):
            for wrong in ((0, 2, []), (3, 1, [2]), (0, 1, [9]), (0, 1, [0]), (0, 0, [])):
                self.made(UNDONE, [0, 0, 0], 1, right[:place] + [wrong] + right[place:], None)

    def test_rows_that_come_to_have_more_than_twelve_deeds(self):
        steps = [(2 * place, 1, [1, 1]) for place in range(12)]
        for many in range(13):
            self.made(DEAR_FIRST, [0] * 12, 1, steps[:many], [1, 1] * many + [0] * (12 - many))
        self.made(DEAR_FIRST, [0] * 12, 4, steps + [(20, 4, [])], [1] * 20)
        self.made(DEAR_FIRST, [0] * 12, 4, steps + [(21, 4, [])], None)

    def test_machines_that_reach_too_many(self):
        self.made(EVERY_TURN, [0, 0, 0, 0, 0], 6, [(0, 5, [0])], [0])
        self.made(EVERY_TURN, [0, 0, 0, 0, 0], 6, [(0, 5, [1])], None)
        self.made(EVERY_TURN, [1, 1, 2, 2], 6, [(2, 2, [2]), (0, 2, [])], [2])
        for machine in TOO_GREAT:
            self.made(machine, [0, 1], 1, [(0, 1, [])], None)

    def test_against_plain_words(self):
        chance = random.Random(32)
        told = {True: 0, False: 0}
        for machine in SMALL + (DEAR_FIRST, UNDONE) + tuple(some_machines(33, 30)):
            short = [row for row in rows_to(machine, 2)]
            for _ in range(30):
                row, most = some_row(chance, machine), chance.randint(1, 6)
                steps = mended(machine, row, most)[1]
                for _ in range(chance.randint(0, 2)):
                    step = (chance.randint(-1, 12), chance.randint(0, 4), list(chance.choice(short)))
                    steps.insert(chance.randint(0, len(steps)), step)
                steps = steps[chance.choice((0, 0, 0, 1)):]
                wanted = what_steps_make(machine, row, most, steps)
                self.made(machine, row, most, steps, wanted)
                told[wanted is None] += 1
        self.assertGreater(min(told.values()), 100)

    def test_lists_of_the_asker_s_own(self):
        row, steps = [0, 0], [(0, 1, [2])]
        told = made_by(UNDONE, row, 1, steps)
        told.append(3)
        self.assertEqual((row, steps), ([0, 0], [(0, 1, [2])]))
        told = made_by(UNDONE, [0], 1, steps)
        steps[0][2].append(3)
        self.assertEqual(told, [2])
        told.append(1)
        self.assertEqual(steps, [(0, 1, [2, 3])])


if __name__ == "__main__":
    unittest.main()
