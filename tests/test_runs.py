import itertools
import unittest

from leastdeeds.errors import NoMachine, NoRow, NoWord, TooLong
from leastdeeds.machines import beginnings
from leastdeeds.runs import behaviour, run
from tests.plainly import new_word, refusal_of, rows_to
from tests.samples import (
    ALL_ON_ONE_PLACE, ALL_ON_TWO_PLACES, FOUR_WORDS, MACHINES, NO_MACHINES, STRANGE, TWO_WORDS_TWO_PLACES,
)

TABLE = (2, 0, 1)
TABLES = ((1, 0, 2), (2, 2, 0), (0, 1, 1))


class RunTest(unittest.TestCase):
    def end(self, deed, beginning):
        """The end of the row of this one deed, over three words."""
        told = run((3, len(beginning), (deed,)), [0], beginning)
        self.assertEqual(len(told), 2)
        self.assertEqual(told[0], beginning)
        return told[1]

    def test_turn(self):
        self.assertEqual([self.end(("turn", 0, TABLE, 1), (word,)) for word in range(3)], [(2,), (0,), (1,)])
        self.assertEqual(self.end(("turn", 0, TABLE, 1), (0, 1)), (2, 1))
        self.assertEqual(self.end(("turn", 1, TABLE, 1), (0, 1)), (0, 0))
        self.assertEqual(self.end(("turn", 1, TABLE, 1), (2, 2)), (2, 1))

    def test_join(self):
        self.assertEqual(self.end(("join", 0, 1, TABLES, 1), (0, 1)), (0, 1))
        self.assertEqual(self.end(("join", 0, 1, TABLES, 1), (1, 0)), (2, 0))
        self.assertEqual(self.end(("join", 0, 1, TABLES, 1), (1, 2)), (0, 2))
        self.assertEqual(self.end(("join", 1, 0, TABLES, 1), (1, 0)), (1, 0))
        self.assertEqual(self.end(("join", 1, 0, TABLES, 1), (0, 1)), (0, 2))
        self.assertEqual(self.end(("join", 1, 0, TABLES, 1), (2, 1)), (2, 0))

    def test_join_of_one_place(self):
        self.assertEqual([self.end(("join", 0, 0, TABLES, 1), (word,)) for word in range(3)], [(1,), (2,), (1,)])
        self.assertEqual(self.end(("join", 0, 0, TABLES, 1), (1, 0)), (2, 0))
        self.assertEqual(self.end(("join", 1, 1, TABLES, 1), (0, 1)), (0, 2))

    def test_move(self):
        self.assertEqual(self.end(("move", 0, 1, 1), (0, 2)), (2, 2))
        self.assertEqual(self.end(("move", 1, 0, 1), (0, 2)), (0, 0))
        for beginning in ((0, 2), (2, 1), (1,)):
            self.assertEqual(self.end(("move", 0, 0, 1), beginning), beginning)
        self.assertEqual(self.end(("move", 1, 1, 1), (0, 2)), (0, 2))

    def test_put(self):
        self.assertEqual(self.end(("put", 0, 2, 1), (0,)), (2,))
        self.assertEqual(self.end(("put", 0, 2, 1), (0, 1)), (2, 1))
        self.assertEqual(self.end(("put", 1, 0, 1), (2, 1)), (2, 0))

    def test_every_deed_from_every_beginning(self):
        for machine in MACHINES:
            for number, deed in enumerate(machine[2]):
                for start in beginnings(machine):
                    behind = list(start)
                    behind[deed[1]] = new_word(deed, start)
                    self.assertEqual(run(machine, [number], start), [start, tuple(behind)])

    def test_a_run_written_out(self):
        self.assertEqual(
            run(ALL_ON_TWO_PLACES, [0, 1, 2, 3, 4, 5], (1, 0)),
            [(1, 0), (1, 2), (1, 2), (1, 1), (1, 1), (1, 1), (2, 1)],
        )
        self.assertEqual(run(TWO_WORDS_TWO_PLACES, [0, 1, 0], (0, 1)), [(0, 1), (1, 1), (1, 0), (1, 0)])
        self.assertEqual(run(ALL_ON_ONE_PLACE, [0, 0, 1, 2, 3], (2,)), [(2,), (0,), (1,), (2,), (2,), (2,)])

    def test_one_more_than_deeds_the_beginning_ahead(self):
        for machine in MACHINES:
            for long in (0, 1, 7, 40):
                row = [(place * 5 + 1) % len(machine[2]) for place in range(long)]
                for start in beginnings(machine):
                    told = run(machine, row, start)
                    self.assertIs(type(told), list)
                    self.assertEqual(len(told), long + 1)
                    self.assertEqual(told[0], start)
                    for place, number in enumerate(row):
                        self.assertEqual(told[place:place + 2], run(machine, [number], told[place]))

    def test_the_list_is_the_askers_own(self):
        row = [0, 1, 2]
        one = run(FOUR_WORDS, row, (1, 2))
        kept = list(one)
        other = run(FOUR_WORDS, row, (1, 2))
        one.clear()
        row.append(3)
        self.assertEqual(other, kept)
        self.assertEqual(run(FOUR_WORDS, [0, 1, 2], (1, 2)), kept)

    def test_what_is_handed_in_stays(self):
        row = [0, 1, 2, 3, 4]
        run(FOUR_WORDS, row, (0, 0))
        behaviour(FOUR_WORDS, row)
        self.assertEqual(row, [0, 1, 2, 3, 4])


class RunRefusalTest(unittest.TestCase):
    def no_word(self, machine, beginning):
        for row in ([], [0], [0] * 40):
            self.assertIs(type(refusal_of(run, machine, row, beginning)), NoWord, beginning)

    def test_too_few_or_too_many_words(self):
        for machine in MACHINES:
            for long in (0, 1, 2, 3, 4):
                if long != machine[1]:
                    self.no_word(machine, (0,) * long)

    def test_words_that_there_are_not(self):
        for machine in MACHINES:
            for word in STRANGE + (machine[0], machine[0] + 1):
                for place in range(machine[1]):
                    start = [0] * machine[1]
                    start[place] = word
                    self.no_word(machine, tuple(start))

    def test_what_is_no_tuple(self):
        for machine in MACHINES:
            for thing in (None, 0, 1, True, False, "", "0", "00", [0], [0, 0], [], ([0, 0],), ((0,), (0,))):
                self.no_word(machine, thing)

    def test_the_row_goes_ahead(self):
        for beginning in ((0, 0), (0,), (9, 9), None, [0, 0]):
            for row in ([0, True], [0, 5], [0, -1] + [0] * 40):
                refusal = refusal_of(run, FOUR_WORDS, row, beginning)
                self.assertIs(type(refusal), NoRow)
                self.assertEqual(refusal.place, 1)
            refusal = refusal_of(run, FOUR_WORDS, (0,), beginning)
            self.assertIs(type(refusal), NoRow)
            self.assertEqual(refusal.place, 0)
            self.assertIs(type(refusal_of(run, FOUR_WORDS, [0] * 41, beginning)), TooLong)

    def test_no_machine_goes_first(self):
        for thing in NO_MACHINES:
            for row in ([], [True], [0] * 41, None):
                for beginning in ((0,), None):
                    self.assertIs(type(refusal_of(run, thing, row, beginning)), NoMachine)


class BehaviourTest(unittest.TestCase):
    def test_the_empty_row(self):
        for machine in MACHINES:
            told = behaviour(machine, [])
            self.assertIs(type(told), tuple)
            self.assertEqual(told, tuple(beginnings(machine)))

    def test_written_out(self):
        self.assertEqual(behaviour(ALL_ON_ONE_PLACE, [0]), ((1,), (2,), (0,)))
        self.assertEqual(behaviour(ALL_ON_ONE_PLACE, [1]), ((0,), (2,), (1,)))
        self.assertEqual(behaviour(ALL_ON_ONE_PLACE, [3]), ((2,), (2,), (2,)))
        self.assertEqual(behaviour(TWO_WORDS_TWO_PLACES, [0]), ((0, 0), (1, 1), (1, 0), (0, 1)))
        # Three joins with exclusive or give each place the other one's word.
        self.assertEqual(behaviour(TWO_WORDS_TWO_PLACES, [0, 1, 0]), ((0, 0), (1, 0), (0, 1), (1, 1)))

    def test_the_ends_of_all_beginnings_in_order(self):
        for machine in MACHINES:
            for row in rows_to(machine, 3):
                ends = [run(machine, row, start)[-1] for start in beginnings(machine)]
                self.assertEqual(behaviour(machine, row), tuple(ends))

    def test_rows_joined(self):
        for machine in MACHINES:
            rows = list(rows_to(machine, 2))
            for one, other in itertools.product(rows, rows):
                for start in beginnings(machine):
                    first = run(machine, one, start)
                    second = run(machine, other, first[-1])
                    self.assertEqual(run(machine, one + other, start), first + second[1:])

    def test_the_longest_row(self):
        self.assertEqual(behaviour(ALL_ON_ONE_PLACE, [0] * 40), behaviour(ALL_ON_ONE_PLACE, [0]))

    def test_refusals(self):
        for machine in MACHINES:
            many = len(machine[2])
            for thing in STRANGE + (many,):
                for row in ([0, thing], [0, thing, True], [0, thing] + [0] * 40):
                    refusal = refusal_of(behaviour, machine, row)
                    self.assertIs(type(refusal), NoRow)
                    self.assertEqual(refusal.place, 1)
            for thing in (None, (0,), "0", 0, True):
                refusal = refusal_of(behaviour, machine, thing)
                self.assertIs(type(refusal), NoRow)
                self.assertEqual(refusal.place, 0)
            self.assertIs(type(refusal_of(behaviour, machine, [0] * 41)), TooLong)
            self.assertIsNone(refusal_of(behaviour, machine, [0] * 40))
        for thing in NO_MACHINES:
            for row in ([], [True], [0] * 41, None):
                self.assertIs(type(refusal_of(behaviour, thing, row)), NoMachine)


if __name__ == "__main__":
    unittest.main()
