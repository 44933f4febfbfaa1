"""What the document promises over the whole program: its interface, points 2, 3 and 5."""

import copy
import importlib
import inspect
import random
import unittest

from leastdeeds.alike import need_rules, parted, stepped
from leastdeeds.desk import Desk
from leastdeeds.errors import DeedError, NoMachine, NoRow, TooLong
from leastdeeds.least import closed, least, shows
from leastdeeds.machines import beginnings, cost, is_machine, need_row
from leastdeeds.mending import made_by, mended
from leastdeeds.runs import behaviour, run
from leastdeeds.shop import Shop
from leastdeeds.tables import counts, table
from leastdeeds.texts import read_machine, read_row, show_machine, show_row
from leastdeeds.works import does_work, need_work
from tests.plain_rows import machine_text
from tests.plainly import refusal_of, some_machines, starts_of
from tests.samples import ALL_ON_ONE_PLACE, FOUR_WORDS, MACHINES, NO_MACHINES, STRANGE, TWO_WORDS_TWO_PLACES

FUNCTIONS = {
    "machines": {
        "is_machine": "thing", "need_row": "machine row", "beginnings": "machine", "cost": "machine row",
    },
    "runs": {"run": "machine row beginning", "behaviour": "machine row"},
    "alike": {
        "parted": "machine one other", "need_rules": "machine rules", "stepped": "machine rules row steps",
    },
    "works": {"need_work": "machine work", "does_work": "machine row work"},
    "least": {
        "least": "machine work", "shows": "machine work number floors", "closed": "machine work behaviours",
    },
    "tables": {"table": "machine bound", "counts": "machine bound"},
    "mending": {"mended": "machine row most", "made_by": "machine row most steps"},
    "texts": {"show_machine": "machine", "show_row": "row", "read_machine": "text", "read_row": "text"},
    "shop": {"Shop": "machine row"},
    "desk": {"Desk": ""},
}
METHODS = {
    Shop: {"row": "", "cost": "", "behaviour": "", "least": "", "put": "place number", "out": "place", "back": ""},
    Desk: {"say": "row"},
}

# All that is told of a machine, with things that are right for ALL_ON_ONE_PLACE.
OF_A_MACHINE = (
    (beginnings, ()), (need_row, ([0, 1],)), (cost, ([0, 1],)), (run, ([0, 1], (2,))), (behaviour, ([0, 1],)),
    (parted, ([0], [1])), (need_rules, ([([0, 0, 0], [])],)), (stepped, ([([0, 0, 0], [])], [0], [(0, 0, True)])),
    (need_work, ((0, None, 2),)), (does_work, ([0], (1, None, 0))), (least, ((1, 2, 0),)), (least, ((0, 0, 1),)),
    (shows, ((1, 2, 0), 1, [(((0,), (1,), (2,)), 1)])), (closed, ((0, 0, 1), [((0,), (1,), (2,))])), (table, (4,)),
    (counts, (4,)), (mended, ([2, 0, 0, 0, 2, 1], 3)), (made_by, ([2, 0, 2], 1, [(0, 1, []), (1, 1, [])])),
    (Shop, ([0, 1],)), (show_machine, ()),
)


def rows_asked(row):
    """All that is told of a machine and a row, the other things wrong where they can be."""
    return (
        (need_row, (row,)), (cost, (row,)), (run, (row, (9,))), (behaviour, (row,)), (parted, (row, [True])),
        (stepped, ([([], [0])], row, [(99, 99, True)])), (does_work, (row, ())), (mended, (row, 0)),
        (made_by, (row, 7, [(9, 9, [9])])), (Shop, (row,)),
    )


def spoiled(told):
    """Change every list in what was told, however deep."""
    if isinstance(told, (list, tuple)):
        for part in told:
            spoiled(part)
    if isinstance(told, list):
        told.append("spoiled")
        told.reverse()


class InterfaceTest(unittest.TestCase):
    def test_functions_and_classes(self):
        for name, asked in FUNCTIONS.items():
            module = importlib.import_module(f"leastdeeds.{name}")
            for ask, arguments in asked.items():
                self.assertEqual(list(inspect.signature(getattr(module, ask)).parameters), arguments.split(), ask)

    def test_methods(self):
        for one, methods in METHODS.items():
            for name, arguments in methods.items():
                parameters = list(inspect.signature(getattr(one, name)).parameters)
                self.assertEqual(parameters[1:], arguments.split(), name)

    def test_kinds(self):
        shop, desk = Shop(ALL_ON_ONE_PLACE, [0]), Desk()
        desk.say("machine " + machine_text(ALL_ON_ONE_PLACE).replace("\n", "/"))
        for told, kind in (
            (shop.row(), list), (shop.cost(), int), (shop.behaviour(), tuple), (shop.least(), int),
            (shop.put(0, 0), tuple), (shop.put(0, 2), type(None)), (shop.out(1), tuple), (shop.back(), tuple),
            (mended(ALL_ON_ONE_PLACE, [0], 1), tuple), (made_by(ALL_ON_ONE_PLACE, [0], 1, []), list),
            (made_by(ALL_ON_ONE_PLACE, [0], 1, [(0, 1, [0])]), type(None)), (show_machine(ALL_ON_ONE_PLACE), str),
            (show_row([0]), str), (read_machine("2 1\nmove 0 0 1"), tuple), (read_row("0"), list),
            (desk.say("put 0 0"), str), (desk.say("cost"), str), (desk.say("work ..."), str),
        ):
            self.assertIs(type(told), kind)


class RefusedTest(unittest.TestCase):
    def test_what_is_no_machine(self):
        for thing in NO_MACHINES:
            self.assertIs(is_machine(thing), False)
            for ask, things in OF_A_MACHINE:
                self.assertIs(type(refusal_of(ask, thing, *things)), NoMachine, ask)

    def test_a_machine_with_a_truth_or_a_list_in_it(self):
        def altered(thing):
            """A thing with each of its parts, however deep, made a truth or a list."""
            yield True
            yield [thing]
            for place, part in enumerate(thing if isinstance(thing, tuple) else ()):
                for other in altered(part):
                    yield thing[:place] + (other,) + thing[place + 1:]

        for machine in MACHINES:
            for thing in altered(machine):
                self.assertIs(is_machine(thing), False, thing)
                for ask, things in OF_A_MACHINE:
                    self.assertIs(type(refusal_of(ask, thing, *things)), NoMachine, ask)

    def test_what_is_no_row_goes_ahead_of_all_else(self):
        for machine in MACHINES:
            for thing in STRANGE + (len(machine[2]),):
                for long in (0, 2, 13, 40, 50):
                    for ask, things in rows_asked([0] * long + [thing]):
                        refusal = refusal_of(ask, machine, *things)
                        self.assertIs(type(refusal), NoRow, ask)
                        self.assertEqual(refusal.place, long)
            for ask, things in rows_asked([0] * 41):
                self.assertIs(type(refusal_of(ask, machine, *things)), TooLong, ask)
            for ask, things in rows_asked((0, 0)):
                refusal = refusal_of(ask, machine, *things)
                self.assertIs(type(refusal), NoRow, ask)
                self.assertEqual(refusal.place, 0)


class ListsTest(unittest.TestCase):
    def test_nothing_told_hangs_on_what_was_told_before(self):
        for ask, things in OF_A_MACHINE:
            if ask is Shop:
                continue
            kept = copy.deepcopy(things)
            told, other = ask(ALL_ON_ONE_PLACE, *things), ask(ALL_ON_ONE_PLACE, *things)
            wanted = copy.deepcopy(told)
            spoiled(told)
            self.assertEqual(things, kept, ask)
            self.assertEqual(other, wanted, ask)
            self.assertEqual(ask(ALL_ON_ONE_PLACE, *things), wanted, ask)

    def test_no_list_is_told_twice_at_once(self):
        def lists(told):
            if isinstance(told, (list, tuple)):
                for part in told:
                    yield from lists(part)
            if isinstance(told, list):
                yield id(told)

        for machine in (ALL_ON_ONE_PLACE, FOUR_WORDS, TWO_WORDS_TWO_PLACES):
            row = [0, 1, 0, 1] * 3
            work = (None,) * len(starts_of(machine))
            for told in (
                mended(machine, row, 1), mended(machine, row, 6), table(machine, 6), counts(machine, 6),
                least(machine, work), least(machine, (0,) * len(work)),
            ):
                found = list(lists(told))
                self.assertEqual(len(found), len(set(found)))

    def test_nothing_told_hangs_on_what_was_handed_in(self):
        for ask, things in OF_A_MACHINE:
            mine = copy.deepcopy(things)
            told = ask(ALL_ON_ONE_PLACE, *mine)
            before = (told.row(), told.behaviour()) if ask is Shop else copy.deepcopy(told)
            spoiled(mine)
            self.assertEqual((told.row(), told.behaviour()) if ask is Shop else told, before, ask)


class OneProgramTest(unittest.TestCase):
    """The parts of the program tell the same of the same."""

    def test_shop_table_and_desk(self):
        for machine in (*MACHINES[:2], *MACHINES[3:], *some_machines(70, 15, 60)):
            line = "machine " + show_machine(machine).replace("\n", "/")
            for ends, price, row in table(machine, 5):
                shop = Shop(machine, row)
                self.assertEqual((shop.least(), shop.cost(), shop.behaviour()), (price, price, ends))
                desk = Desk()
                desk.say(line)
                for place, number in enumerate(row):
                    wanted = parted(machine, row[:place], row[:place + 1])
                    told = desk.say(f"put {place} {number}")
                    self.assertEqual(told, "-" if wanted is None else "".join(map(str, wanted)))
                self.assertEqual(desk.say("row"), show_row(row))
                self.assertEqual(read_row(desk.say("row")), row)
                self.assertEqual(desk.say("least"), str(price))
                work = tuple(end[0] for end in ends)
                self.assertEqual(desk.say("work " + "".join(map(str, work))), str(least(machine, work)[1]))

    def test_mended_rows_are_alike_and_steps_are_rules(self):
        chance = random.Random(71)
        for machine in (*MACHINES[:2], *MACHINES[3:], *some_machines(72, 15)):
            for most in range(1, 7):
                row = [chance.randrange(len(machine[2])) for _ in range(chance.randint(0, 12))]
                made, steps = mended(machine, row, most)
                self.assertIsNone(parted(machine, row, made))
                self.assertEqual(cost(machine, row) == cost(machine, made), not steps)
                rules, standing = [], list(row)
                for place, long, put in steps:
                    rules.append((standing[place:place + long], put))
                    standing[place:place + long] = put
                told = stepped(machine, rules, row, [(step[0], at, False) for at, step in enumerate(steps)])
                self.assertEqual(told, made)
                self.assertGreaterEqual(cost(machine, made), Shop(machine, row).least())

    def test_every_refusal_is_a_deed_error(self):
        desk = Desk()
        for ask, things in (
            (desk.say, ("row",)), (read_row, ("",)), (read_machine, ("",)), (show_machine, (None,)), (Shop, (None, [])),
            (mended, (ALL_ON_ONE_PLACE, [], 0)), (made_by, (ALL_ON_ONE_PLACE, [0] * 13, 1, [])),
        ):
            self.assertIsInstance(refusal_of(ask, *things), DeedError)
            with self.assertRaises(ValueError):
                ask(*things)


if __name__ == "__main__":
    unittest.main()
