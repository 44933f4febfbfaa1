import copy
import itertools
import unittest

from leastdeeds.errors import DeedError, NoMachine, NoRow, TooLong
from leastdeeds.machines import beginnings, cost, is_machine, need_row
from tests.samples import (
    ALL_ON_ONE_PLACE, ALL_ON_TWO_PLACES, FOUR_WORDS, MACHINES, NO_MACHINES, STRANGE, TWO_WORDS_ONE_PLACE,
)

MOVE = ("move", 0, 0, 1)


def paths(thing, ahead=()):
    """The places of all that lies in nested tuples, the whole first."""
    found = [ahead]
    if isinstance(thing, tuple):
        for place, inner in enumerate(thing):
            found += paths(inner, ahead + (place,))
    return found


def at_path(thing, path):
    for place in path:
        thing = thing[place]
    return thing


def replaced(thing, path, new):
    if not path:
        return new
    place = path[0]
    return thing[:place] + (replaced(thing[place], path[1:], new),) + thing[place + 1:]


def one_deed(deed, words=3, places=2):
    return (words, places, (MOVE, deed))


class IsMachineTest(unittest.TestCase):
    def is_one(self, thing):
        self.assertIs(is_machine(thing), True, thing)

    def is_none(self, thing):
        self.assertIs(is_machine(thing), False, thing)

    def test_samples(self):
        for machine in MACHINES:
            self.is_one(machine)

    def test_each_sort_by_itself_over_all_words_and_places(self):
        for words, places in itertools.product((2, 3, 4), (1, 2)):
            table = tuple(reversed(range(words)))
            for at, price in itertools.product(range(places), (1, 2, 3)):
                self.is_one((words, places, (("turn", at, table, price),)))
                for word in range(words):
                    self.is_one((words, places, (("put", at, word, price),)))
                for other in range(places):
                    self.is_one((words, places, (("join", at, other, (table,) * words, price),)))
                    self.is_one((words, places, (("move", at, other, price),)))

    def test_all_small_tables(self):
        for table in itertools.product((-1, 0, 1, 2), repeat=2):
            right = all(word in (0, 1) for word in table)
            self.assertIs(is_machine((2, 1, (("turn", 0, table, 1),))), right)
            self.assertIs(is_machine((2, 1, (("join", 0, 0, ((0, 1), table), 1),))), right)
            self.assertIs(is_machine((2, 1, (("join", 0, 0, (table, (0, 1)), 1),))), right)

    def test_number_of_deeds(self):
        self.is_none((2, 1, ()))
        for many in range(1, 7):
            self.is_one((2, 1, (MOVE,) * many))
        self.is_none((2, 1, (MOVE,) * 7))
        self.is_none((2, 1, (MOVE,) * 50))

    def test_number_of_words(self):
        for words in (-2, -1, 0, 1, 5, 6, 10 ** 20):
            self.is_none((words, 1, (MOVE,)))
        for words in (1, 5):
            table = tuple(range(words))
            self.is_none((words, 1, (("turn", 0, table, 1),)))
            self.is_none((words, 1, (("join", 0, 0, (table,) * words, 1),)))
            self.is_none((words, 1, (("put", 0, 0, 1),)))

    def test_number_of_places(self):
        for places in (-1, 0, 3, 4):
            self.is_none((2, places, (MOVE,)))
        self.is_none((2, 3, (("move", 2, 2, 1),)))

    def test_cost(self):
        for price in (-1, 0, 4, 5, True, "1", None, (1,), [1]):
            self.is_none(one_deed(("turn", 0, (0, 1, 2), price)))
            self.is_none(one_deed(("join", 0, 1, ((0, 1, 2),) * 3, price)))
            self.is_none(one_deed(("move", 0, 1, price)))
            self.is_none(one_deed(("put", 0, 1, price)))

    def test_places_that_there_are_not(self):
        for places in (1, 2):
            for place in (-1, places, True, False, "0", None, [0], (0,)):
                for deed in (
                    ("turn", place, (0, 1, 2), 1),
                    ("join", place, 0, ((0, 1, 2),) * 3, 1),
                    ("join", 0, place, ((0, 1, 2),) * 3, 1),
                    ("move", place, 0, 1),
                    ("move", 0, place, 1),
                    ("put", place, 1, 1),
                ):
                    self.is_none(one_deed(deed, places=places))

    def test_words_that_there_are_not(self):
        for words in (2, 3, 4):
            good = tuple(range(words))
            for word in (-1, words, True, False, "0", None, [0], (0,)):
                self.is_none(one_deed(("put", 0, word, 1), words=words))
                for place in range(words):
                    bad = good[:place] + (word,) + good[place + 1:]
                    self.is_none(one_deed(("turn", 0, bad, 1), words=words))
                    for row in range(words):
                        tables = (good,) * row + (bad,) + (good,) * (words - row - 1)
                        self.is_none(one_deed(("join", 0, 1, tables, 1), words=words))

    def test_tables_of_another_length(self):
        for words in (2, 3, 4):
            good = tuple(range(words))
            for table in ((), good[1:], good + (0,), (good,) * words, 0, "01", list(good)):
                self.is_none(one_deed(("turn", 0, table, 1), words=words))
                self.is_none(one_deed(("join", 0, 1, (good,) * (words - 1) + (table,), 1), words=words))
                self.is_none(one_deed(("join", 0, 1, (table,) + (good,) * (words - 1), 1), words=words))
            for tables in ((), good, (good,) * (words - 1), (good,) * (words + 1), [good] * words):
                self.is_none(one_deed(("join", 0, 1, tables, 1), words=words))

    def test_a_deeds_word(self):
        for word in ("", "turns", "Turn", "TURN", " turn", "turn\n", "jump", "t", 0, True, None, ("turn",), ["turn"]):
            self.is_none(one_deed((word, 0, (0, 1, 2), 1)))
            self.is_none(one_deed((word, 0, 1, 1)))
            self.is_none(one_deed((word,)))

    def test_a_word_with_another_sorts_parts(self):
        parts = {
            "turn": (0, (2, 1, 0), 1), "join": (0, 1, ((0, 1, 2),) * 3, 1), "move": (0, 1, 1), "put": (0, 2, 1),
        }
        for word, other in itertools.permutations(parts, 2):
            if (word, other) != ("put", "move"):
                self.is_none(one_deed((word,) + parts[other]))
        self.is_none(one_deed(("move", 0, 2, 1)))
        self.is_one(one_deed(("put", 0, 2, 1)))

    def test_strange_things_in_every_part(self):
        for machine in MACHINES:
            for path in paths(machine):
                for strange in STRANGE:
                    self.is_none(replaced(machine, path, strange))

    def test_lists_for_tuples(self):
        for machine in MACHINES:
            for path in paths(machine):
                part = at_path(machine, path)
                if isinstance(part, tuple):
                    self.is_none(replaced(machine, path, list(part)))

    def test_each_part_out_or_twice(self):
        for machine in MACHINES:
            for path in paths(machine):
                part = at_path(machine, path)
                if not isinstance(part, tuple) or path == (2,):
                    continue
                for place in range(len(part)):
                    self.is_none(replaced(machine, path, part[:place] + part[place + 1:]))
                    self.is_none(replaced(machine, path, part[:place + 1] + part[place:]))
                self.is_none(replaced(machine, path, part + (0,)))
                self.is_none(replaced(machine, path, (part,)))

    def test_deeds_out_or_twice(self):
        deeds = ALL_ON_TWO_PLACES[2]
        for place in range(6):
            self.is_one((3, 2, deeds[:place] + deeds[place + 1:]))
            self.is_none((3, 2, deeds[:place + 1] + deeds[place:]))

    def test_a_wrong_deed_at_any_number(self):
        for place in range(6):
            deeds = [MOVE] * 6
            deeds[place] = ("move", 0, 0, 4)
            self.is_none((2, 1, tuple(deeds)))

    def test_anything_else(self):
        for thing in NO_MACHINES:
            self.is_none(thing)

    def test_what_is_asked_of_stays(self):
        thing = [2, [1], ([["turn", 0, [1, 0], 1]],)]
        kept = copy.deepcopy(thing)
        self.is_none(thing)
        self.is_none((2, 1, thing))
        self.assertEqual(thing, kept)


class BeginningsTest(unittest.TestCase):
    def test_all_in_order(self):
        for words, places in itertools.product((2, 3, 4), (1, 2)):
            told = beginnings((words, places, (MOVE,)))
            self.assertIs(type(told), list)
            self.assertEqual(told, sorted(itertools.product(range(words), repeat=places)))
            for beginning in told:
                self.assertIs(type(beginning), tuple)

    def test_written_out(self):
        self.assertEqual(beginnings(TWO_WORDS_ONE_PLACE), [(0,), (1,)])
        self.assertEqual(
            beginnings(ALL_ON_TWO_PLACES),
            [(0, 0), (0, 1), (0, 2), (1, 0), (1, 1), (1, 2), (2, 0), (2, 1), (2, 2)],
        )

    def test_told_anew_each_time(self):
        one = beginnings(FOUR_WORDS)
        other = beginnings(FOUR_WORDS)
        self.assertIsNot(one, other)
        one.append("more")
        one[0] = None
        self.assertEqual(other, sorted(itertools.product(range(4), repeat=2)))
        self.assertEqual(beginnings(FOUR_WORDS), other)

    def test_no_machine(self):
        for thing in NO_MACHINES:
            with self.assertRaises(NoMachine):
                beginnings(thing)


class RowTest(unittest.TestCase):
    def asked(self, machine, row):
        """need_row and cost refuse alike: the refusal, or None."""
        refusals = []
        for ask in (need_row, cost):
            kept = copy.deepcopy((machine, row))
            try:
                ask(machine, row)
                refusals.append(None)
            except DeedError as e:
                refusals.append(e)
            self.assertEqual((machine, row), kept)
        self.assertIs(type(refusals[0]), type(refusals[1]))
        if isinstance(refusals[0], NoRow):
            self.assertEqual(refusals[0].place, refusals[1].place)
        return refusals[0]

    def no_row(self, machine, row, place):
        refusal = self.asked(machine, row)
        self.assertIs(type(refusal), NoRow, row)
        self.assertEqual(refusal.place, place)

    def test_rows_of_all_lengths(self):
        for machine in MACHINES:
            many = len(machine[2])
            for long in range(41):
                row = [place % many for place in range(long)]
                self.assertIsNone(self.asked(machine, row))
                self.assertIsNone(need_row(machine, row))

    def test_cost(self):
        self.assertEqual(cost(ALL_ON_ONE_PLACE, []), 0)
        self.assertEqual([cost(ALL_ON_ONE_PLACE, [number]) for number in range(4)], [1, 2, 3, 1])
        self.assertEqual([cost(ALL_ON_TWO_PLACES, [number]) for number in range(6)], [3, 2, 1, 1, 2, 1])
        self.assertEqual(cost(ALL_ON_ONE_PLACE, [0, 1, 2, 3]), 7)
        self.assertEqual(cost(ALL_ON_ONE_PLACE, [2] * 40), 120)
        self.assertEqual(cost(FOUR_WORDS, [1, 1, 4, 3]), 9)
        for machine in MACHINES:
            self.assertIs(type(cost(machine, [])), int)

    def test_a_number_that_is_no_deeds(self):
        for machine in MACHINES:
            many = len(machine[2])
            for thing in STRANGE + (many, many + 1, -many, (0,)):
                for place in (0, 1, 5, 39):
                    row = [0] * 40
                    row[place] = thing
                    self.no_row(machine, row, place)
                    self.no_row(machine, row[:place + 1], place)

    def test_the_first_one_is_told(self):
        self.no_row(TWO_WORDS_ONE_PLACE, [0, 0, True, None, 1], 2)
        self.no_row(TWO_WORDS_ONE_PLACE, [0, 1, -1], 1)
        self.no_row(TWO_WORDS_ONE_PLACE, [False], 0)

    def test_what_is_no_list(self):
        for thing in (None, 0, 3, True, False, "", "0", "000", (), (0,), (0, 9), ([0],)):
            self.no_row(ALL_ON_TWO_PLACES, thing, 0)
        self.no_row(ALL_ON_TWO_PLACES, (0,) * 41, 0)
        self.no_row(ALL_ON_TWO_PLACES, "0" * 41, 0)

    def test_too_long(self):
        for machine in MACHINES:
            for long in (41, 42, 100):
                self.assertIs(type(self.asked(machine, [0] * long)), TooLong)

    def test_no_row_goes_ahead_of_too_long(self):
        for place in (0, 39, 40, 41, 60):
            row = [0] * 61
            row[place] = True
            self.no_row(FOUR_WORDS, row, place)
        self.no_row(FOUR_WORDS, [0] * 40 + [5], 40)

    def test_no_machine_goes_first(self):
        for thing in NO_MACHINES:
            for row in ([], [0], [True], [0] * 41, None, (0,)):
                self.assertIs(type(self.asked(thing, row)), NoMachine)


if __name__ == "__main__":
    unittest.main()
