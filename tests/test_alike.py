import copy
import itertools
import random
import unittest

from leastdeeds.alike import need_rules, parted, stepped
from leastdeeds.errors import NoMachine, NoRow, NoRule, NoStep, TooLong
from leastdeeds.runs import behaviour
from tests.plainly import does, refusal_of, rows_to, some_machines, starts_of
from tests.samples import (
    ALL_ON_ONE_PLACE, ALL_ON_TWO_PLACES, FOUR_WORDS, MACHINES, NO_MACHINES, STRANGE, TWO_WORDS_ONE_PLACE,
    TWO_WORDS_TWO_PLACES,
)

# Deed 0 is undone by three of its own, deed 2 does nothing, deed 3 makes what went ahead of it all one.
TURNS = ALL_ON_ONE_PLACE


class PartedTest(unittest.TestCase):
    def test_every_two_short_rows(self):
        for machine in MACHINES:
            ends = {tuple(row): does(machine, row) for row in rows_to(machine, 2)}
            for one, other in itertools.product(ends, ends):
                starts = [
                    start for start, end, other_end in zip(starts_of(machine), ends[one], ends[other])
                    if end != other_end
                ]
                told = parted(machine, list(one), list(other))
                self.assertEqual(told, starts[0] if starts else None)

    def test_written_out(self):
        self.assertIsNone(parted(TURNS, [0, 0, 0], []))
        self.assertIsNone(parted(TURNS, [], [2]))
        self.assertIsNone(parted(TURNS, [3], [0, 1, 2, 3]))
        self.assertIsNone(parted(TWO_WORDS_TWO_PLACES, [0, 1, 0], [1, 0, 1]))
        self.assertEqual(parted(TURNS, [0], []), (0,))
        self.assertEqual(parted(TURNS, [1], []), (1,))
        self.assertEqual(parted(TURNS, [1, 1], []), None)
        self.assertEqual(parted(TWO_WORDS_TWO_PLACES, [0], [1]), (0, 1))
        self.assertEqual(parted(TWO_WORDS_TWO_PLACES, [1], []), (1, 0))
        self.assertEqual(parted(FOUR_WORDS, [3], [4]), (0, 0))

    def test_parted_at_the_last_beginning_alone(self):
        for words, places in itertools.product((2, 3, 4), (1, 2)):
            last = words - 1
            keep = tuple((word,) * words for word in range(words))
            turn = tuple(keep[:last]) + ((last,) * last + (0,),)
            machine = (words, places, (("join", 0, places - 1, turn, 1), ("move", 0, 0, 1)))
            self.assertEqual(parted(machine, [0], []), (last,) * places)
            self.assertEqual(parted(machine, [1], [0]), (last,) * places)
            self.assertIsNone(parted(machine, [1], []))

    def test_a_difference_at_place_one_alone(self):
        machine = (2, 2, (("put", 1, 0, 1), ("turn", 1, (0, 1), 1)))
        self.assertEqual(parted(machine, [0], [1]), (0, 1))

    def test_a_row_with_itself_and_either_way_about(self):
        chance = random.Random(1)
        for machine in MACHINES + tuple(some_machines(2, 20)):
            for _ in range(20):
                one, other = (
                    [chance.randrange(len(machine[2])) for _ in range(chance.randint(0, 40))] for _ in range(2)
                )
                self.assertIsNone(parted(machine, one, list(one)))
                self.assertIsNone(parted(machine, one, one))
                told = parted(machine, one, other)
                self.assertEqual(told, parted(machine, other, one))
                self.assertIs(told is None, does(machine, one) == does(machine, other))
                self.assertIs(type(told), type(None) if told is None else tuple)

    def test_forty_deeds(self):
        self.assertIsNone(parted(TURNS, [0] * 40, [0]))
        self.assertIsNone(parted(TURNS, [0], [0] * 40))
        self.assertEqual(parted(TURNS, [0] * 40, [0] * 39), (0,))
        self.assertIsNone(parted(TWO_WORDS_ONE_PLACE, [0] * 40, []))

    def test_what_is_handed_in_stays(self):
        for one, other in (([0, 1], [1, 0]), ([0] * 40, [])):
            self.assertIsNone(refusal_of(parted, TURNS, one, other))

    def no_row(self, machine, one, other, place):
        refusal = refusal_of(parted, machine, one, other)
        self.assertIs(type(refusal), NoRow, (one, other))
        self.assertEqual(refusal.place, place)

    def test_no_row_of_either(self):
        for machine in MACHINES:
            for thing in STRANGE + (len(machine[2]),):
                self.no_row(machine, [0, 0, thing], [0], 2)
                self.no_row(machine, [0], [0, 0, thing], 2)
        for thing in (None, 0, True, "0", (0,), ()):
            self.no_row(TURNS, thing, [0], 0)
            self.no_row(TURNS, [0], thing, 0)

    def test_too_long_of_either(self):
        for one, other in (([0] * 41, []), ([], [0] * 41), ([0] * 41, [0] * 41), ([0] * 40, [0] * 99)):
            self.assertIs(type(refusal_of(parted, TURNS, one, other)), TooLong)

    def test_of_two_wrong_rows_the_first_ones_refusal(self):
        self.no_row(TURNS, [0, 0, 0, True], [9], 3)
        self.no_row(TURNS, [9], [0, 0, 0, True], 0)
        self.no_row(TURNS, [0, None], [0] * 41, 1)
        self.assertIs(type(refusal_of(parted, TURNS, [0] * 41, [0, None])), TooLong)
        self.assertIs(type(refusal_of(parted, TURNS, [0] * 41, None)), TooLong)
        self.no_row(TURNS, [0] * 45 + [7], [True], 45)

    def test_no_machine_goes_first(self):
        for thing in NO_MACHINES:
            for one, other in (([], []), ([True], [0]), ([0], None), ([0] * 41, [9])):
                self.assertIs(type(refusal_of(parted, thing, one, other)), NoMachine)


class RulesTest(unittest.TestCase):
    def no_rule(self, machine, rules, number):
        refusal = refusal_of(need_rules, machine, rules)
        self.assertIs(type(refusal), NoRule, rules)
        self.assertEqual(refusal.number, number)

    def test_none_of_none_and_of_those_that_hold(self):
        for machine in MACHINES:
            self.assertIsNone(need_rules(machine, []))
            self.assertIsNone(need_rules(machine, [([], [])]))
        rules = [([0, 0, 0], []), ([], [2]), ([3], [0, 1, 3]), ([0] * 40, [0]), ([2] * 40, [2] * 40)]
        self.assertIsNone(refusal_of(need_rules, TURNS, rules))
        self.assertIsNone(need_rules(TURNS, rules))

    def test_every_two_short_rows(self):
        for machine in MACHINES:
            rows = list(rows_to(machine, 1))
            for one, other in itertools.product(rows, rows):
                rules = [([0], [0]), (one, other)]
                if does(machine, one) == does(machine, other):
                    self.assertIsNone(need_rules(machine, rules))
                else:
                    self.no_rule(machine, rules, 1)

    def test_the_first_wrong_one(self):
        good = ([0, 0, 0], [])
        for wrong in (
            ([0], []), ([], [0]), ([4], [4]), ([0], [True]), ([False], [0]), ([0, -1], [0]), ([0], [0, None]),
            ([0] * 41, [0] * 41), ([], [0] * 42), ([2] * 41, []), (["0"], []), ([[0]], [(0,)]),
        ):
            for ahead in range(4):
                self.no_rule(TURNS, [good] * ahead + [wrong], ahead)
                self.no_rule(TURNS, [good] * ahead + [wrong, good], ahead)
                self.no_rule(TURNS, [good] * ahead + [wrong, ([9], []), ([0], [])], ahead)

    def test_what_is_no_tuple_of_two_lists(self):
        for wrong in STRANGE + (([],), ([], [], []), [[], []], ([], ()), ((), []), (None, None), ("", "")):
            self.no_rule(TURNS, [([], []), wrong], 1)

    def test_a_strange_thing_in_either_row(self):
        for machine in MACHINES:
            for thing in STRANGE + (len(machine[2]),):
                self.no_rule(machine, [([], []), ([0, thing], [0, thing])], 1)
                self.no_rule(machine, [([0], [0]), ([], []), ([], [thing])], 2)

    def test_no_machine_goes_first(self):
        for thing in NO_MACHINES:
            for rules in ([], [([], [])], [([9], [])]):
                self.assertIs(type(refusal_of(need_rules, thing, rules)), NoMachine)


def step_plainly(rules, row, step):
    """Point 8's step, by walking along; None where it can't be done."""
    place, number, back = step
    if number not in range(len(rules)) or place not in range(len(row) + 1):
        return None
    old, new = rules[number][::-1] if back else rules[number]
    if len(row) - place < len(old) or any(row[place + at] != old[at] for at in range(len(old))):
        return None
    made = [number for at, number in enumerate(row) if at < place]
    made += new
    made += [number for at, number in enumerate(row) if at >= place + len(old)]
    return made if len(made) <= 40 else None


class SteppedTest(unittest.TestCase):
    RULES = [([0, 0, 0], []), ([0, 1], [1, 0, 0]), ([2], []), ([], []), ([3], [1, 3])]

    def told(self, row, steps, machine=TURNS, rules=None):
        rules = copy.deepcopy(self.RULES) if rules is None else rules
        kept = copy.deepcopy((machine, rules, row, steps))
        told = stepped(machine, rules, row, steps)
        self.assertEqual((machine, rules, row, steps), kept)
        self.assertIs(type(told), list)
        self.assertEqual(does(machine, told), does(machine, row))
        return told

    def no_step(self, row, steps, place, rules=None):
        rules = copy.deepcopy(self.RULES) if rules is None else rules
        refusal = refusal_of(stepped, TURNS, rules, row, steps)
        self.assertIs(type(refusal), NoStep, (row, steps))
        self.assertEqual(refusal.place, place)

    def test_the_rules_hold(self):
        self.assertIsNone(need_rules(TURNS, self.RULES))

    def test_no_steps(self):
        for row in ([], [0], [3, 2, 1, 0], [1] * 40):
            told = self.told(row, [])
            self.assertEqual(told, row)
            self.assertIsNot(told, row)
            self.assertEqual(self.told(row, [], rules=[]), row)

    def test_either_way_about(self):
        self.assertEqual(self.told([1, 0, 0, 0, 2], [(1, 0, False)]), [1, 2])
        self.assertEqual(self.told([1, 2], [(1, 0, True)]), [1, 0, 0, 0, 2])
        self.assertEqual(self.told([3, 0, 1, 3], [(1, 1, False)]), [3, 1, 0, 0, 3])
        self.assertEqual(self.told([3, 1, 0, 0, 3], [(1, 1, True)]), [3, 0, 1, 3])
        self.assertEqual(self.told([0, 1], [(0, 1, False)]), [1, 0, 0])
        self.assertEqual(self.told([1, 3], [(0, 4, True)]), [3])
        self.no_step([1, 3], [(0, 4, False)], 0)
        self.assertEqual(self.told([1, 3], [(1, 4, False)]), [1, 1, 3])
        self.no_step([1, 3], [(1, 4, True)], 0)

    def test_an_empty_row_put_in_and_taken_out_at_each_place(self):
        for row in ([], [0], [1, 3, 0, 1], [1] * 36):
            for place in range(len(row) + 1):
                wider = row[:place] + [0, 0, 0] + row[place:]
                self.assertEqual(self.told(row, [(place, 0, True)]), wider)
                self.assertEqual(self.told(wider, [(place, 0, False)]), row)
                self.assertEqual(self.told(row, [(place, 3, False), (place, 3, True)]), row)
            for place in (-1, len(row) + 1, len(row) + 2, -len(row) - 1, 41, 10 ** 30, -10 ** 30):
                self.no_step(row, [(place, 0, True)], 0)
                self.no_step(row, [(place, 3, False)], 0)
                self.no_step(row, [(0, 3, True), (place, 3, True), (place, 3, True)], 1)

    def test_several_one_behind_the_other(self):
        self.assertEqual(
            self.told([0, 1, 2], [(2, 2, False), (0, 1, False), (3, 0, True), (1, 0, False)]),
            [1, 0, 0],
        )
        self.assertEqual(self.told([0, 1, 2], [(2, 2, False), (0, 1, False), (3, 0, True)]), [1, 0, 0, 0, 0, 0])
        self.assertEqual(self.told([], [(0, 2, True)] * 40), [2] * 40)
        self.assertEqual(self.told([2] * 40, [(0, 2, False)] * 40), [])
        self.no_step([2] * 40, [(0, 2, False)] * 41, 40)

    def test_a_place_that_there_is_not(self):
        row = [2, 1, 2]
        for place in (-1, -2, -3, -4, 3, 4, 5, 10 ** 20, -10 ** 20):
            self.no_step(row, [(place, 2, False)], 0)
        for place in (-1, -3, 4, 5):
            self.no_step(row, [(place, 2, True)], 0)
        self.no_step(row, [(0, 2, False), (2, 2, False)], 1)

    def test_a_rule_that_there_is_not(self):
        for number in (-1, -5, -6, 5, 6, 10 ** 20, -10 ** 20):
            for back in (True, False):
                self.no_step([2, 0], [(0, number, back)], 0)
                self.no_step([2, 0], [(0, 2, False), (0, number, back)], 1)
                self.no_step([], [(0, number, back)], 0, rules=[])
        self.no_step([], [(0, 0, False)], 0, rules=[])

    def test_a_row_that_does_not_stand_there(self):
        self.no_step([0, 0, 1], [(0, 0, False)], 0)
        self.no_step([0, 0], [(0, 0, False)], 0)
        self.no_step([0, 0, 0], [(1, 0, False)], 0)
        self.no_step([0, 0, 0], [(3, 0, False)], 0)
        self.no_step([0, 1], [(0, 1, True)], 0)
        self.no_step([1, 0], [(0, 1, False)], 0)
        self.no_step([1, 0, 0], [(0, 1, True), (0, 1, True)], 1)
        self.no_step([], [(0, 2, False)], 0)

    def test_forty_deeds_and_no_more(self):
        self.assertEqual(self.told([1] * 37, [(5, 0, True)]), [1] * 5 + [0, 0, 0] + [1] * 32)
        self.assertEqual(self.told([1] * 39, [(39, 2, True)]), [1] * 39 + [2])
        self.assertEqual(self.told([0, 1] + [1] * 37, [(0, 1, False)]), [1, 0, 0] + [1] * 37)
        self.no_step([1] * 38, [(5, 0, True)], 0)
        self.no_step([1] * 40, [(0, 2, True)], 0)
        self.no_step([0, 1] + [1] * 38, [(0, 1, False)], 0)
        self.no_step([1] * 36, [(0, 2, True), (0, 0, True), (0, 2, True), (0, 0, False)], 2)
        self.assertEqual(self.told([1] * 40, [(40, 3, True), (0, 3, False)]), [1] * 40)
        whole = [([1] * 40, [2] * 40)]
        self.assertEqual(self.told([1] * 40, [(0, 0, False)], rules=whole), [2] * 40)
        self.no_step([1] * 40, [(1, 0, False)], 0, rules=whole)

    def test_the_first_that_can_not_be_done(self):
        steps = [(0, 2, True), (0, 2, True), (1, 9, False), (-1, 0, False), (0, 2, True)]
        self.no_step([1], steps, 2)
        self.no_step([1], steps[3:], 0)
        self.no_step([1], steps[:2] + steps[3:], 2)

    def test_against_plain_words(self):
        chance = random.Random(3)
        for machine in MACHINES + tuple(some_machines(4, 25)):
            rows = list(rows_to(machine, 2))
            rules = [two for two in itertools.combinations(rows, 2) if does(machine, two[0]) == does(machine, two[1])]
            rules = chance.sample(rules, min(len(rules), 5)) + [([], [])]
            for _ in range(30):
                row = [chance.randrange(len(machine[2])) for _ in range(chance.choice((0, 2, 4, 6, 39)))]
                steps = [
                    (chance.randint(-1, len(row) + 1), chance.randint(-1, len(rules)), chance.random() < 0.5)
                    for _ in range(chance.randint(1, 4))
                ]
                made, wrong = row, None
                for place, step in enumerate(steps):
                    made = step_plainly(rules, made, step)
                    if made is None:
                        wrong = place
                        break
                if wrong is None:
                    self.assertEqual(self.told(row, steps, machine, rules), made)
                else:
                    refusal = refusal_of(stepped, machine, rules, row, steps)
                    self.assertIs(type(refusal), NoStep)
                    self.assertEqual(refusal.place, wrong)

    def test_the_row_is_the_askers_own(self):
        row, rules, steps = [2, 1], [([2], [])], [(0, 0, False), (0, 0, True)]
        one = stepped(TURNS, rules, row, steps)
        other = stepped(TURNS, rules, row, steps)
        one.clear()
        self.assertEqual(other, [2, 1])
        row.append(9)
        rules[0][0].append(0)
        steps.clear()
        self.assertEqual(other, [2, 1])
        whole = [([], [2, 2])]
        told = stepped(TURNS, whole, [], [(0, 0, False)])
        told.append(3)
        self.assertEqual(whole, [([], [2, 2])])

    def test_the_order_of_refusals(self):
        bad_rules, bad_steps = [([2], []), ([0], [])], [(9, 9, False)]
        for rules in ([], bad_rules, self.RULES):
            for steps in ([], bad_steps):
                refusal = refusal_of(stepped, TURNS, rules, [0, 0, True], steps)
                self.assertIs(type(refusal), NoRow)
                self.assertEqual(refusal.place, 2)
                self.assertIs(type(refusal_of(stepped, TURNS, rules, [0] * 41, steps)), TooLong)
                refusal = refusal_of(stepped, TURNS, rules, (0,), steps)
                self.assertIs(type(refusal), NoRow)
                self.assertEqual(refusal.place, 0)
                for thing in NO_MACHINES:
                    self.assertIs(type(refusal_of(stepped, thing, rules, [True], steps)), NoMachine)
        for steps in ([], bad_steps, [(0, 0, False)]):
            refusal = refusal_of(stepped, TURNS, bad_rules, [2], steps)
            self.assertIs(type(refusal), NoRule)
            self.assertEqual(refusal.number, 1)
        refusal = refusal_of(stepped, TURNS, [([2], []), ([4], [])], [2], [(0, 0, False)])
        self.assertIs(type(refusal), NoRule)
        self.assertEqual(refusal.number, 1)
        self.no_step([2], bad_steps, 0)

    def test_two_places(self):
        self.assertEqual(
            self.told([0, 1, 0, 1], [(0, 0, False), (2, 1, False)], TWO_WORDS_TWO_PLACES,
                      [([0, 1, 0], [1, 0, 1]), ([1, 1], [])]),
            [1, 0],
        )
        self.assertEqual(behaviour(ALL_ON_TWO_PLACES, [3]), behaviour(ALL_ON_TWO_PLACES, [3, 3]))
        self.assertEqual(self.told([3], [(0, 0, True)], ALL_ON_TWO_PLACES, [([3, 3], [3])]), [3, 3])


if __name__ == "__main__":
    unittest.main()
