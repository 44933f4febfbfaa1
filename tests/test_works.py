import itertools
import unittest

from leastdeeds.errors import NoMachine, NoRow, NoWork, TooLong
from leastdeeds.works import does_work, need_work
from tests.plainly import does, fits, refusal_of, rows_to, some_machines, some_works, starts_of
from tests.samples import (
    ALL_ON_ONE_PLACE, ALL_ON_TWO_PLACES, FOUR_WORDS, MACHINES, NO_MACHINES, STRANGE, TWO_WORDS_ONE_PLACE,
    TWO_WORDS_TWO_PLACES,
)


def wrong_works(machine):
    """What is no work of a machine, of all kinds."""
    long = len(starts_of(machine))
    wrong = [(0,) * many for many in range(2 * long + 2) if many != long]
    wrong += [(None,) * many for many in (0, long - 1, long + 1)]
    wrong += [[0] * long, [None] * long, "0" * long, ([0] * long,), ((0,) * long,), list(starts_of(machine))]
    wrong += [None, 0, long, True, False, "", "0", [], [None], tuple(starts_of(machine))]
    for place in range(long):
        for thing in STRANGE + (machine[0], machine[0] + 1, (0,), [None]):
            if thing is not None:
                wrong.append((None,) * place + (thing,) + (0,) * (long - place - 1))
    return wrong


class NeedWorkTest(unittest.TestCase):
    def test_works(self):
        for machine in MACHINES:
            long = len(starts_of(machine))
            self.assertIsNone(need_work(machine, (None,) * long))
            for word in range(machine[0]):
                self.assertIsNone(need_work(machine, (word,) * long))
                for place in range(long):
                    work = (None,) * place + (word,) + (None,) * (long - place - 1)
                    self.assertIsNone(refusal_of(need_work, machine, work))

    def test_all_works_of_two_words(self):
        for work in itertools.product((None, 0, 1), repeat=2):
            self.assertIsNone(need_work(TWO_WORDS_ONE_PLACE, work))
        for work in itertools.product((None, 0, 1), repeat=4):
            self.assertIsNone(need_work(TWO_WORDS_TWO_PLACES, work))

    def test_what_is_none(self):
        for machine in MACHINES:
            for thing in wrong_works(machine):
                self.assertIs(type(refusal_of(need_work, machine, thing)), NoWork, thing)

    def test_no_machine_goes_first(self):
        for thing in NO_MACHINES:
            for work in ((), (0, 1), None, (None,) * 16):
                self.assertIs(type(refusal_of(need_work, thing, work)), NoMachine)


class DoesWorkTest(unittest.TestCase):
    def test_written_out(self):
        self.assertIs(does_work(TWO_WORDS_ONE_PLACE, [], (0, 1)), True)
        self.assertIs(does_work(TWO_WORDS_ONE_PLACE, [0], (1, 0)), True)
        self.assertIs(does_work(TWO_WORDS_ONE_PLACE, [0], (0, 1)), False)
        self.assertIs(does_work(TWO_WORDS_ONE_PLACE, [0], (None, 0)), True)
        self.assertIs(does_work(TWO_WORDS_ONE_PLACE, [0], (None, 1)), False)
        self.assertIs(does_work(TWO_WORDS_ONE_PLACE, [0], (None, None)), True)
        self.assertIs(does_work(ALL_ON_ONE_PLACE, [3], (2, 2, 2)), True)
        self.assertIs(does_work(ALL_ON_ONE_PLACE, [3], (2, 2, 1)), False)
        self.assertIs(does_work(ALL_ON_ONE_PLACE, [0], (1, 2, 0)), True)

    def test_place_0_counts_alone(self):
        # Three joins give each place the other one's word.
        self.assertIs(does_work(TWO_WORDS_TWO_PLACES, [0, 1, 0], (0, 1, 0, 1)), True)
        self.assertIs(does_work(TWO_WORDS_TWO_PLACES, [0, 1, 0], (0, 0, 1, 1)), False)
        self.assertIs(does_work(TWO_WORDS_TWO_PLACES, [0], (0, 1, 1, 0)), True)
        self.assertIs(does_work(TWO_WORDS_TWO_PLACES, [1], (0, 0, 1, 1)), True)
        self.assertIs(does_work(TWO_WORDS_TWO_PLACES, [1, 1, 1], (0, 0, 1, 1)), True)
        self.assertIs(does_work(ALL_ON_TWO_PLACES, [4], (0, 0, 0, 1, 1, 1, 2, 2, 2)), True)

    def test_one_wrong_word_at_each_beginning(self):
        for machine in MACHINES:
            for row in rows_to(machine, 2):
                words = [end[0] for end in does(machine, row)]
                self.assertIs(does_work(machine, row, tuple(words)), True)
                for place, word in enumerate(words):
                    wrong = words[:place] + [(word + 1) % machine[0]] + words[place + 1:]
                    self.assertIs(does_work(machine, row, tuple(wrong)), False)
                    loose = words[:place] + [None] + words[place + 1:]
                    self.assertIs(does_work(machine, row, tuple(loose)), True)

    def test_against_plain_words(self):
        for machine in MACHINES + tuple(some_machines(5, 20)):
            for work in some_works(machine, 6, 10):
                for row in rows_to(machine, 2):
                    self.assertIs(does_work(machine, row, work), fits(does(machine, row), work))

    def test_forty_deeds(self):
        self.assertIs(does_work(TWO_WORDS_ONE_PLACE, [0] * 40, (0, 1)), True)
        self.assertIs(does_work(TWO_WORDS_ONE_PLACE, [0] * 39, (0, 1)), False)

    def test_what_is_no_work(self):
        for machine in MACHINES:
            for thing in wrong_works(machine):
                self.assertIs(type(refusal_of(does_work, machine, [0], thing)), NoWork, thing)
            self.assertIs(type(refusal_of(does_work, machine, [], ())), NoWork)

    def test_the_row_goes_ahead_of_the_work(self):
        for machine in MACHINES:
            for work in ((None,) * len(starts_of(machine)), (), None, [0], "x"):
                for thing in STRANGE + (len(machine[2]),):
                    refusal = refusal_of(does_work, machine, [0, thing], work)
                    self.assertIs(type(refusal), NoRow)
                    self.assertEqual(refusal.place, 1)
                self.assertIs(type(refusal_of(does_work, machine, [0] * 41, work)), TooLong)
                refusal = refusal_of(does_work, machine, (0, 0), work)
                self.assertIs(type(refusal), NoRow)
                self.assertEqual(refusal.place, 0)

    def test_no_machine_goes_first(self):
        for thing in NO_MACHINES:
            for row in ([], [True], [0] * 41, None):
                for work in ((0, 1), None):
                    self.assertIs(type(refusal_of(does_work, thing, row, work)), NoMachine)

    def test_what_is_handed_in_stays(self):
        self.assertIsNone(refusal_of(does_work, FOUR_WORDS, [0, 1, 2, 3, 4], (None, 3) * 8))


if __name__ == "__main__":
    unittest.main()
