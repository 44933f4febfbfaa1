import copy
import random
import unittest

from leastdeeds.errors import DeedError, NoDeed, NoMachine, NoPlace, NoRow, Nothing, TooLong, TooMany
from leastdeeds.shop import Shop
from tests.plain_rows import PlainShop, reaches_too_many
from tests.plainly import does, least_costs, price_of, refusal_of, some_machines
from tests.samples import (
    ALL_ON_ONE_PLACE, ALL_ON_TWO_PLACES, BACK_AND_FORTH, EVERY_TURN, FOUR_WORDS, MACHINES, NO_MACHINES, REACHES_254,
    REACHES_255, REACHES_256, REACHES_257, STRANGE, TO_255, TWO_WORDS_ONE_PLACE, TWO_WORDS_TWO_PLACES,
)

SMALL = (TWO_WORDS_ONE_PLACE, ALL_ON_ONE_PLACE, FOUR_WORDS, TWO_WORDS_TWO_PLACES)
TOO_GREAT = (REACHES_256, REACHES_257, EVERY_TURN, TO_255, ALL_ON_TWO_PLACES)
NO_NUMBERS = STRANGE + (-2, 41, 42, 1000, 2 ** 64, "2", (1,), [0, 1], ((0,), 1))


def told_or_refused(ask, *things):
    """What is told, or the class of the refusal."""
    try:
        return ask(*things)
    except DeedError as e:
        return type(e)


class ShopTest(unittest.TestCase):
    def stands(self, shop, machine, row, least=None):
        """Hold all that a shop tells against a row, and against a shop that is made anew."""
        other = Shop(machine, list(row))
        for one in (shop, other):
            self.assertEqual((one.row(), type(one.row())), (list(row), list))
            self.assertEqual((one.cost(), type(one.cost())), (price_of(machine, row), int))
            self.assertEqual(one.behaviour(), does(machine, row))
            self.assertIs(type(one.behaviour()), tuple)
            if least is not None:
                self.assertEqual(told_or_refused(one.least), least)

    def refused(self, shop, sort, ask, *things):
        """A refusal that changes nothing."""
        row = shop.row()
        refusal = refusal_of(ask, *things)
        self.assertIs(type(refusal), sort, things)
        self.assertEqual(shop.row(), row)

    def test_made_of_a_row(self):
        for machine in MACHINES:
            for long in (0, 1, 2, 12, 13, 39, 40):
                row = [(place * 5 + 1) % len(machine[2]) for place in range(long)]
                self.stands(Shop(machine, row), machine, row)

    def test_written_out(self):
        shop = Shop(TWO_WORDS_TWO_PLACES, [])
        self.assertEqual(shop.put(0, 0), (0, 1))
        self.assertEqual(shop.put(1, 1), (0, 1))
        self.assertEqual(shop.row(), [0, 1])
        self.assertEqual(shop.put(0, 1), (1, 0))
        self.assertEqual(shop.row(), [1, 0, 1])
        self.assertEqual((shop.cost(), shop.least()), (3, 3))
        self.assertEqual(shop.behaviour(), ((0, 0), (1, 0), (0, 1), (1, 1)))
        self.assertEqual(shop.put(3, 1), (0, 1))
        self.assertEqual((shop.cost(), shop.least()), (4, 2))
        self.assertEqual(shop.out(3), (0, 1))
        self.assertEqual(shop.out(1), (0, 1))
        self.assertEqual((shop.row(), shop.cost(), shop.least()), ([1, 1], 2, 0))
        self.assertEqual(shop.back(), (0, 1))
        self.assertEqual(shop.row(), [1, 0, 1])

    def test_changes_that_change_no_end(self):
        shop = Shop(ALL_ON_ONE_PLACE, [3])
        for place, number in ((0, 0), (0, 2), (1, 1), (4, 2)):
            self.assertIsNone(shop.put(place, number))
        self.assertEqual(shop.row(), [2, 1, 0, 3, 2])
        self.assertIsNone(shop.out(4))
        self.assertIsNone(shop.out(0))
        self.assertEqual(shop.out(2), (0,))
        self.assertEqual(shop.back(), (0,))
        for _ in range(6):
            self.assertIsNone(shop.back())
        self.stands(shop, ALL_ON_ONE_PLACE, [3])

    def test_the_last_beginning_alone(self):
        for words, places in ((2, 1), (3, 1), (4, 1), (2, 2), (3, 2), (4, 2)):
            last = words - 1
            keep = tuple((word,) * words for word in range(words))
            turn = keep[:last] + ((last,) * last + (0,),)
            shop = Shop((words, places, (("join", 0, places - 1, turn, 1),)), [])
            self.assertEqual(shop.put(0, 0), (last,) * places)
            self.assertEqual(shop.out(0), (last,) * places)
            self.assertEqual(shop.back(), (last,) * places)
            self.assertEqual(shop.back(), (last,) * places)

    def test_an_end_that_differs_at_place_one_alone(self):
        shop = Shop((2, 2, (("put", 1, 0, 1), ("put", 1, 1, 1))), [0])
        self.assertEqual(shop.put(1, 1), (0, 0))
        self.assertEqual(shop.out(1), (0, 0))
        self.assertEqual(shop.out(0), (0, 1))

    def test_put_at_each_place(self):
        row = [0, 1, 2]
        for place in range(4):
            shop = Shop(ALL_ON_ONE_PLACE, row)
            shop.put(place, 3)
            self.stands(shop, ALL_ON_ONE_PLACE, row[:place] + [3] + row[place:])
            shop.out(place)
            self.stands(shop, ALL_ON_ONE_PLACE, row)

    def test_no_place_to_put(self):
        for machine in MACHINES:
            for long in (0, 1, 5, 40):
                shop = Shop(machine, [0] * long)
                for thing in NO_NUMBERS + (long + 1,):
                    if type(thing) is int and 0 <= thing <= long:
                        continue
                    for number in (0, 99, True, None):
                        self.refused(shop, NoPlace, shop.put, thing, number)
                self.refused(shop, Nothing, shop.back)

    def test_no_place_to_take_out(self):
        for long in (0, 1, 5, 40):
            shop = Shop(ALL_ON_ONE_PLACE, [0] * long)
            for thing in NO_NUMBERS + (long, long + 1):
                if type(thing) is not int or not 0 <= thing < long:
                    self.refused(shop, NoPlace, shop.out, thing)
            self.refused(shop, Nothing, shop.back)
            if long:
                shop.out(long - 1)
                self.assertEqual(shop.row(), [0] * (long - 1))

    def test_no_deed(self):
        for machine in MACHINES:
            for long in (0, 1, 39, 40):
                shop = Shop(machine, [0] * long)
                for thing in STRANGE + (len(machine[2]), 6, 7):
                    for place in (0, long):
                        self.refused(shop, NoDeed, shop.put, place, thing)
                self.refused(shop, Nothing, shop.back)

    def test_forty_and_forty_one_deeds(self):
        for machine in MACHINES:
            shop = Shop(machine, [0] * 39)
            shop.put(39, 0)
            for place in (0, 20, 40):
                self.refused(shop, TooLong, shop.put, place, 0)
            self.refused(shop, NoPlace, shop.put, 41, 0)
            self.refused(shop, NoDeed, shop.put, 40, 6)
            self.stands(shop, machine, [0] * 40)
            shop.out(40 - 1)
            shop.put(0, 0)
            self.stands(shop, machine, [0] * 40)

    def test_made_of_a_wrong_row(self):
        for machine in MACHINES:
            self.assertIs(type(refusal_of(Shop, machine, [0] * 41)), TooLong)
            for thing in STRANGE + (len(machine[2]),):
                for long in (0, 2, 39, 40, 41):
                    refusal = refusal_of(Shop, machine, [0] * long + [thing, True])
                    self.assertIs(type(refusal), NoRow)
                    self.assertEqual(refusal.place, long)
            for thing in (None, True, 0, "", "0", (), (0,)):
                refusal = refusal_of(Shop, machine, thing)
                self.assertIs(type(refusal), NoRow)
                self.assertEqual(refusal.place, 0)

    def test_made_of_no_machine(self):
        for thing in NO_MACHINES:
            for row in ([], [0], [True], [0] * 41, None):
                self.assertIs(type(refusal_of(Shop, thing, row)), NoMachine)

    def test_back_undoes_change_by_change(self):
        shop = Shop(ALL_ON_ONE_PLACE, [0, 1])
        rows = [[0, 1]]
        for place, number in ((0, 3), (3, 2), (1, 1), (4, 0)):
            shop.put(place, number)
            rows.append(shop.row())
        for place in (2, 0, 3):
            shop.out(place)
            rows.append(shop.row())
        for row in rows[-2::-1]:
            shop.back()
            self.stands(shop, ALL_ON_ONE_PLACE, row)
        for _ in range(2):
            self.refused(shop, Nothing, shop.back)
        self.stands(shop, ALL_ON_ONE_PLACE, [0, 1])

    def test_back_is_itself_not_undone(self):
        shop = Shop(ALL_ON_ONE_PLACE, [])
        shop.put(0, 0)
        shop.put(1, 1)
        shop.back()
        shop.put(1, 3)
        shop.back()
        self.assertEqual(shop.row(), [0])
        shop.back()
        self.assertEqual(shop.row(), [])
        self.refused(shop, Nothing, shop.back)
        shop.put(0, 2)
        shop.back()
        self.refused(shop, Nothing, shop.back)

    def test_refused_changes_are_not_undone(self):
        shop = Shop(ALL_ON_ONE_PLACE, [0])
        shop.put(1, 1)
        for ask, things in ((shop.put, (9, 0)), (shop.put, (0, 9)), (shop.out, (2,)), (shop.out, (None,))):
            self.assertIsNotNone(refusal_of(ask, *things))
        shop.back()
        self.assertEqual(shop.row(), [0])
        self.refused(shop, Nothing, shop.back)

    def test_least(self):
        shop = Shop(ALL_ON_ONE_PLACE, [2])
        self.assertEqual((shop.cost(), shop.least()), (3, 0))
        shop.put(1, 3)
        self.assertEqual((shop.cost(), shop.least()), (4, 1))
        for machine in (REACHES_254, REACHES_255, BACK_AND_FORTH):
            costs = least_costs(machine)
            for long in (0, 1, 7, 40):
                row = [place % 2 for place in range(long)]
                self.assertEqual(Shop(machine, row).least(), costs[does(machine, row)])
        self.assertEqual(Shop(BACK_AND_FORTH, [0, 1] * 20).least(), 40)

    def test_too_many(self):
        for machine in TOO_GREAT:
            for row in ([], [0], [0, 1] * 20):
                shop = Shop(machine, row)
                self.refused(shop, TooMany, shop.least)
                self.refused(shop, Nothing, shop.back)
                self.stands(shop, machine, row, TooMany)
                if row:
                    shop.out(0)
                else:
                    shop.put(0, 1)
                self.refused(shop, TooMany, shop.least)
                shop.back()
                self.stands(shop, machine, row, TooMany)

    def test_many_changes_against_plain_words(self):
        chance = random.Random(40)
        machines = MACHINES + TOO_GREAT + (REACHES_255, BACK_AND_FORTH) + tuple(some_machines(41, 12))
        for machine in machines:
            costs = None if reaches_too_many(machine) else least_costs(machine)
            row = [chance.randrange(len(machine[2])) for _ in range(chance.choice((0, 3, 38)))]
            shop, plain = Shop(machine, row), PlainShop(machine, row)
            for _ in range(60):
                name, *things = chance.choice((
                    ("put", chance.randint(-1, len(plain.now()) + 1), chance.randint(-1, len(machine[2]))),
                    ("put", chance.randint(0, len(plain.now())), chance.randrange(len(machine[2]))),
                    ("put", len(plain.now()), chance.randrange(len(machine[2]))),
                    ("out", chance.randint(-1, len(plain.now()) + 1)), ("back",), ("back",),
                    ("put", chance.choice(STRANGE), 0), ("put", 0, chance.choice(STRANGE)),
                    ("out", chance.choice(STRANGE)),
                ))
                self.assertEqual(
                    told_or_refused(getattr(shop, name), *things), getattr(plain, name)(*things), (name, things),
                )
                self.stands(
                    shop, machine, plain.now(), TooMany if costs is None else costs[does(machine, plain.now())],
                )

    def test_two_shops_side_by_side(self):
        row = [0, 1]
        one, other = Shop(ALL_ON_ONE_PLACE, row), Shop(ALL_ON_ONE_PLACE, row)
        third = Shop(FOUR_WORDS, row)
        one.put(2, 3)
        self.assertEqual(other.row(), [0, 1])
        self.refused(other, Nothing, other.back)
        other.out(0)
        third.put(0, 4)
        self.stands(one, ALL_ON_ONE_PLACE, [0, 1, 3])
        self.stands(other, ALL_ON_ONE_PLACE, [1])
        self.stands(third, FOUR_WORDS, [4, 0, 1])
        one.back()
        self.refused(one, Nothing, one.back)
        other.back()
        third.back()
        for shop, machine in ((one, ALL_ON_ONE_PLACE), (other, ALL_ON_ONE_PLACE), (third, FOUR_WORDS)):
            self.stands(shop, machine, [0, 1])

    def test_lists_are_nobody_else_s(self):
        row = [0, 1]
        shop = Shop(ALL_ON_ONE_PLACE, row)
        row.append(3)
        row[0] = 2
        self.stands(shop, ALL_ON_ONE_PLACE, [0, 1])
        told = shop.row()
        told.append(3)
        told[0] = 9
        self.stands(shop, ALL_ON_ONE_PLACE, [0, 1])
        told = shop.row()
        shop.put(0, 3)
        self.assertEqual(told, [0, 1])
        self.assertEqual(row, [2, 1, 3])
        told = shop.row()
        shop.row().clear()
        shop.back()
        self.assertEqual(told, [3, 0, 1])
        told.clear()
        shop.row().clear()
        self.stands(shop, ALL_ON_ONE_PLACE, [0, 1])

    def test_what_was_told_goes_on_to_stand(self):
        shop = Shop(FOUR_WORDS, [0, 2])
        told = (shop.row(), shop.cost(), shop.behaviour(), shop.least())
        kept = copy.deepcopy(told)
        shop.put(1, 3)
        shop.out(0)
        shop.back()
        self.assertEqual(told, kept)


if __name__ == "__main__":
    unittest.main()
