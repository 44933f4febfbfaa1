import random
import unittest

from leastdeeds.desk import Desk
from leastdeeds.errors import (
    DeedError, NoBound, NoDeed, NoLine, NoPlace, Nothing, NoWord, NoWork, TooLong, TooMany,
)
from leastdeeds.texts import read_row
from tests.plain_rows import PlainDesk, bent, dear_windows, joined, machine_text
from tests.plainly import does, least_costs, price_of, refusal_of, some_machines, starts_of
from tests.samples import (
    ALL_ON_ONE_PLACE, ALL_ON_TWO_PLACES, BACK_AND_FORTH, EVERY_TURN, FOUR_WORDS, MACHINES, REACHES_255, REACHES_256,
    TWO_WORDS_ONE_PLACE, TWO_WORDS_TWO_PLACES,
)

SMALL = (TWO_WORDS_ONE_PLACE, ALL_ON_ONE_PLACE, FOUR_WORDS, TWO_WORDS_TWO_PLACES)
TOO_GREAT = (EVERY_TURN, REACHES_256, ALL_ON_TWO_PLACES)
SIGNS = " \t\n,-./+_0159xA"
NO_TEXTS = (None, True, 0, 1, (), [], ["row"], ("row",), ("put", 0, 0))


def machine_line(machine):
    return "machine " + machine_text(machine).replace("\n", "/")


def desk_of(machine, row=()):
    """A desk with this row of this machine."""
    desk = Desk()
    desk.say(machine_line(machine))
    for place, number in enumerate(row):
        desk.say(f"put {place} {number}")
    return desk


def some_line(chance, machine, long):
    """A row for the desk, mostly one that it answers."""
    words, places, deeds = machine
    wide = words ** places
    place, beyond = chance.randint(0, long), chance.choice((0, long + 1, 40, 41, 99))
    return chance.choice((
        f"put {place} {chance.randrange(len(deeds))}", f"put {place} {chance.randrange(len(deeds))}",
        f"put {chance.choice((place, beyond))} {chance.randrange(10)}", f"put {long} {chance.randrange(len(deeds))}",
        f"out {place}", f"out {beyond}", "back", "back", "row", "cost", "does", "least",
        "work " + "".join(chance.choice("." * 3 + "0123"[:words]) for _ in range(wide)),
        "work " + "".join(chance.choice(".01234") for _ in range(chance.choice((wide, wide - 1, wide + 1)))),
        "run " + "".join(chance.choice("0123"[:words]) for _ in range(places)),
        "run " + "".join(chance.choice("01234") for _ in range(chance.randint(1, 3))),
        f"mend {chance.randrange(10)}", f"mend {chance.randint(1, 6)}",
    ))


class DeskTest(unittest.TestCase):
    def answers(self, desk, *lines):
        """Each row with its answer, or with the class of its refusal."""
        for line, wanted in lines:
            if isinstance(wanted, str):
                self.assertEqual(desk.say(line), wanted, line)
                self.assertIs(type(desk.say("row")), str)
            else:
                self.refused(desk, line, wanted)

    def refused(self, desk, line, sort):
        self.assertIs(type(refusal_of(desk.say, line)), sort, line)

    def as_plainly(self, desk, plain, line):
        """Hold an answer against the plain words."""
        wanted = plain.say(line)
        if isinstance(wanted, tuple):
            self.mended(*wanted, desk.say(line))
            return wanted
        try:
            told = desk.say(line)
        except DeedError as e:
            told = type(e)
        self.assertEqual(told, wanted, line)
        return wanted

    def mended(self, machine, row, most, told):
        costs = least_costs(machine)
        made = read_row(told)
        self.assertEqual(does(machine, made), does(machine, row))
        self.assertLessEqual(price_of(machine, made), price_of(machine, row))
        self.assertEqual(dear_windows(machine, costs, made, most), [])

    def test_written_out_on_one_place(self):
        self.answers(
            Desk(), ("machine 3 1/turn 0 120 1/join 0 0 012,120,201 2/move 0 0 3/put 0 2 1", "ok"),
            ("row", "-"), ("cost", "0"), ("does", "0,1,2"), ("least", "0"), ("run 2", "2"), ("mend 1", "-"),
            ("put 0 0", "0"), ("put 1 2", "-"), ("put 1 1", "0"), ("row", "0,1,2"), ("cost", "6"), ("does", "2,1,0"),
            ("least", "3"), ("run 0", "0 1 2 2"), ("run 1", "1 2 1 1"), ("mend 1", "0,1"), ("row", "0,1,2"),
            ("out 2", "-"), ("back", "-"), ("back", "0"), ("back", "-"), ("back", "0"), ("back", Nothing),
            ("row", "-"),
            ("work 222", "1"), ("work .2.", "1"), ("work 000", "2"), ("work 001", "none"), ("work ...", "0"),
        )

    def test_written_out_on_two_places(self):
        self.answers(
            Desk(), ("machine 2 2/join 0 1 01,10 1/join 1 0 01,10 1", "ok"),
            ("put 0 0", "01"), ("put 1 1", "01"), ("put 2 0", "10"), ("does", "00,10,01,11"), ("cost", "3"),
            ("least", "3"), ("run 01", "01 11 10 10"), ("run 11", "11 01 01 11"), ("work 0101", "2"),
            ("work 1...", "none"), ("work ....", "0"), ("out 0", "01"), ("row", "1,0"), ("back", "01"),
            ("row", "0,1,0"),
        )

    def test_a_word_at_the_end_of_the_last_beginning(self):
        machine = "machine 2 2/join 0 1 00,10 1"
        self.answers(Desk(), (machine, "ok"), ("put 0 0", "11"), ("out 0", "11"), ("back", "11"), ("back", "11"))

    def test_four_words_on_two_places(self):
        machine = "machine 4 2/turn 0 3210 2/move 1 0 1/put 0 3 1"
        self.answers(
            Desk(), (machine, "ok"), ("put 0 0", "00"), ("put 1 1", "00"), ("run 12", "12 22 22"),
            ("does", "33,33,33,33,22,22,22,22,11,11,11,11,00,00,00,00"), ("work 3333222211110000", "2"),
            ("work ................", "0"), ("work 3333333333333333", "1"), ("work 333322221111000", NoWork),
            ("work 33332222111100000", NoWork), ("work 3333222211114000", NoWork), ("run 4", NoWord),
            ("run 14", NoWord), ("run 123", NoWord), ("run 1", NoWord),
        )

    def test_all_but_machine_where_none_stands(self):
        for line in (
            "put 0 0", "out 0", "back", "row", "cost", "does", "least", "work 01", "work ..", "run 0", "mend 1",
            "mend 9", "", "machine", "machine ", "machine 2 1", "machine 2 1/", "machine 2 1\nmove 0 0 1",
            "2 1/move 0 0 1", "machine -",
        ):
            desk = Desk()
            self.refused(desk, line, NoLine)
            self.refused(desk, "row", NoLine)
            self.answers(desk, (machine_line(TWO_WORDS_ONE_PLACE), "ok"), ("row", "-"))

    def test_a_new_machine(self):
        desk = desk_of(ALL_ON_ONE_PLACE, [3, 1])
        self.answers(
            desk, ("row", "3,1"), ("machine 2 1/turn 0 10 2", "ok"), ("row", "-"), ("back", Nothing), ("does", "0,1"),
            ("put 0 1", NoDeed), ("put 0 0", "0"), ("cost", "2"), ("machine 2 1/turn 0 10 2", "ok"), ("row", "-"),
            ("back", Nothing),
        )

    def test_no_machine_s_text(self):
        desk = desk_of(ALL_ON_ONE_PLACE, [3, 1])
        right = machine_line(TWO_WORDS_ONE_PLACE)
        for line in (
            "machine", "machine ", "machine  2 1/turn 0 10 1", "machine 2 1", "machine 2 1/", right + "/",
            right + " ",
            right + "\n", "machine 2 1\nturn 0 10 1", right + "\nmove 0 0 1", "machine\n2 1/turn 0 10 1", " " + right,
            "Machine 2 1/turn 0 10 1", "machine 2 1//turn 0 10 1", "machine /2 1/turn 0 10 1",
            "machine 2 1/turn 0 12 1", "machine 2 1/turn 0 10 4", "machine 2 1/turn 1 10 1",
            "machine 2 3/turn 0 10 1", "machine 5 1/move 0 0 1",
            "machine 2 1" + "/move 0 0 1" * 7, "machines 2 1/move 0 0 1", "machine\t2 1/move 0 0 1", "machine -",
        ):
            self.refused(desk, line, NoLine)
            self.answers(desk, ("row", "3,1"), ("cost", "3"))
        self.answers(desk, ("machine 2 1" + "/move 0 0 1" * 6, "ok"), ("row", "-"))

    def test_every_machine(self):
        for machine in MACHINES + TOO_GREAT + tuple(some_machines(60, 10)):
            desk = desk_of(machine)
            self.assertEqual(desk.say("does"), ",".join(map(joined, starts_of(machine))))

    def test_what_is_none_of_the_rows(self):
        desk = desk_of(ALL_ON_ONE_PLACE, [3, 1])
        for line in (
            "", " ", "\n", "\t", "ok", "0", "-", "None", "help", "shop", "make 1", "rows", "ro", "Row", "row ", " row",
            "row\n", "row\t", "row 1", "row row", "row\nrow", "cost 1", "costs", "does 0", "does -", "least 1",
            "least\nrow", "back 1", "back ", "backs",
            "put", "put ", "put 0", "put 0 ", "put  0 0", "put 0  0", "put 0 0 ", " put 0 0", "put 0 0 0", "put 0,0",
            "put\t0 0", "put 0\t0", "put 0\n0", "put 0 0\n", "put 00 0", "put 01 0", "put 100 0", "put 000 0",
            "put 0 00", "put 0 01", "put 0 10", "put -1 0", "put 0 -1", "put +1 0", "put 1_ 0", "put x 0", "put 0 x",
            "put . 0", "put 0 .",
            "out", "out ", "out  0", "out 0 ", "out 0\n", "out 0 0", "out 00", "out 01", "out 100", "out -1", "out -",
            "out x",
            "work", "work ", "work  012", "work 012 ", "work 0 1 2", "work 0,1,2", "work 01x", "work -", "work 0-1",
            "work 01\n2", "work\t012", "work ...\n",
            "run", "run ", "run  0", "run 0 ", "run 0\n", "run 0 0", "run 0,0", "run .", "run 0.", "run -", "run x",
            "mend", "mend ", "mend  1", "mend 1 ", "mend 1\n", "mend 1 1", "mend 01", "mend 00", "mend 10", "mend 12",
            "mend -1", "mend x", "mend .",
        ):
            self.refused(desk, line, NoLine)
        for thing in NO_TEXTS:
            self.refused(desk, thing, NoLine)
        self.answers(desk, ("row", "3,1"), ("back", "0"), ("row", "3"), ("back", "0"), ("back", Nothing))

    def test_places(self):
        desk = desk_of(ALL_ON_ONE_PLACE, [2] * 12)
        self.answers(
            desk, ("put 13 0", NoPlace), ("put 13 9", NoPlace), ("put 99 0", NoPlace), ("out 12", NoPlace),
            ("out 99", NoPlace), ("put 12 4", NoDeed), ("put 0 9", NoDeed), ("put 12 0", "0"), ("out 12", "0"),
            ("put 10 0", "0"), ("row", "2,2,2,2,2,2,2,2,2,2,0,2,2"), ("out 10", "0"), ("out 11", "-"), ("out 0", "-"),
            ("row", ",".join("2" * 10)),
        )
        self.answers(desk_of(ALL_ON_ONE_PLACE), ("out 0", NoPlace), ("put 1 0", NoPlace), ("put 1 9", NoPlace))

    def test_forty_deeds(self):
        desk = desk_of(ALL_ON_ONE_PLACE, [2] * 40)
        self.answers(
            desk, ("put 40 0", TooLong), ("put 0 0", TooLong), ("put 41 0", NoPlace), ("put 40 4", NoDeed),
            ("put 41 4", NoPlace), ("row", ",".join("2" * 40)), ("cost", "120"), ("least", "0"),
            ("run 1", " ".join("1" * 41)), ("mend 6", TooLong), ("out 39", "-"), ("put 0 0", "0"),
            ("put 0 0", TooLong),
        )

    def test_mend_of_twelve_and_thirteen_deeds(self):
        desk = desk_of(ALL_ON_ONE_PLACE, [2] * 12)
        self.answers(
            desk, ("mend 1", "-"), ("mend 6", "-"), ("mend 0", NoBound), ("mend 7", NoBound), ("mend 9", NoBound),
            ("row", ",".join("2" * 12)), ("put 0 2", "-"), ("mend 1", TooLong), ("mend 0", TooLong),
            ("mend 7", TooLong),
            ("back", "-"), ("mend 1", "-"),
        )

    def test_mend_lets_the_shop_s_row_stand(self):
        desk = desk_of((4, 1, (("turn", 0, (2, 3, 0, 1), 3), ("turn", 0, (1, 2, 3, 0), 1))), [0] * 12)
        self.answers(
            desk, ("mend 1", ",".join("1" * 24)), ("mend 6", "-"), ("row", ",".join("0" * 12)), ("cost", "36"),
            ("back", "0"), ("row", ",".join("0" * 11)),
        )

    def test_too_many_comes_last(self):
        for machine in TOO_GREAT:
            wide = len(starts_of(machine))
            desk = desk_of(machine, [0, 1])
            self.answers(
                desk, ("least", TooMany), ("work " + "." * wide, TooMany), ("work " + "." * (wide + 1), NoWork),
                ("work " + "9" * wide, NoWork), ("mend 1", TooMany), ("mend 7", NoBound), ("row", "0,1"),
                ("run " + "0" * machine[1], " ".join(joined(does(machine, [0, 1][:long])[0]) for long in range(3))),
                ("run " + "0" * (machine[1] + 1), NoWord),
            )
            desk = desk_of(machine, [0] * 13)
            self.answers(desk, ("mend 6", TooLong), ("mend 0", TooLong), ("least", TooMany))
        self.answers(desk_of(REACHES_255), ("least", "0"), ("work " + "." * 16, "0"), ("mend 6", "-"))

    def test_works_of_rows_longer_than_forty(self):
        # The last deed is one at place 0, else the work would go without it.
        row = [place % 2 for place in range(61)]
        words = "".join(str(end[0]) for end in does(BACK_AND_FORTH, row))
        self.answers(desk_of(BACK_AND_FORTH), ("work " + words, "61"))

    def test_many_rows_against_plain_words(self):
        chance = random.Random(61)
        told = {}
        for machine in (*MACHINES, EVERY_TURN, REACHES_255, *some_machines(62, 10, 60)):
            desk, plain = Desk(), PlainDesk()
            self.as_plainly(desk, plain, "row")
            self.as_plainly(desk, plain, machine_line(machine))
            for number in range(chance.choice((0, 10, 37))):
                self.as_plainly(desk, plain, f"put 0 {number % len(machine[2])}")
            for _ in range(80):
                wanted = self.as_plainly(desk, plain, some_line(chance, machine, len(plain.shop.now())))
                if isinstance(wanted, type):
                    told[wanted] = told.get(wanted, 0) + 1
                self.assertEqual(desk.say("row"), plain.say("row"))
        self.assertEqual(
            set(told), {NoPlace, NoDeed, TooLong, Nothing, NoWork, NoWord, NoBound, TooMany},
        )

    def test_bent_rows(self):
        machine = (3, 1, (("turn", 0, (1, 2, 0), 1), ("put", 0, 2, 3)))
        text = machine_line(machine)
        read = refused = 0
        for line in (
            text, "put 1 0", "put 10 1", "out 0", "out 11", "back", "row", "cost", "does", "least", "work 01.",
            "run 1",
            "mend 3",
        ):
            for other in [line] + bent(line, SIGNS, ("  ", " 0", "row", "\nrow", "put ", "/move 0 0 1")):
                desk, plain = Desk(), PlainDesk()
                for ahead in (text, "put 0 0", "put 0 1"):
                    self.as_plainly(desk, plain, ahead)
                wanted = self.as_plainly(desk, plain, other)
                self.assertEqual(desk.say("row"), plain.say("row"))
                self.assertEqual(desk.say("does"), plain.say("does"))
                if wanted is NoLine:
                    refused += 1
                    self.assertEqual(desk.say("row"), "1,0")
                    self.as_plainly(desk, plain, "back")
                else:
                    read += 1
        self.assertGreater(min(read, refused), 100)

    def test_two_desks_side_by_side(self):
        one, other = Desk(), Desk()
        self.answers(one, (machine_line(ALL_ON_ONE_PLACE), "ok"), ("put 0 0", "0"))
        self.refused(other, "row", NoLine)
        self.answers(other, (machine_line(FOUR_WORDS), "ok"), ("back", Nothing), ("put 0 3", "00"))
        third = desk_of(ALL_ON_ONE_PLACE)
        self.answers(one, ("put 1 3", "0"), ("row", "0,3"), ("does", "2,2,2"))
        self.answers(other, ("row", "3"), ("out 0", "00"), ("row", "-"))
        self.answers(third, ("row", "-"), ("back", Nothing))
        self.answers(one, ("back", "0"), ("row", "0"), ("back", "0"), ("back", Nothing))
        self.answers(other, ("back", "00"), ("row", "3"))


if __name__ == "__main__":
    unittest.main()
