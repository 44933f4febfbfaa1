import random
import unittest

from leastdeeds.errors import NoMachine, NoText
from leastdeeds.machines import is_machine
from leastdeeds.texts import read_machine, read_row, show_machine, show_row
from tests.plain_rows import bent, is_machine_text, is_row_text, machine_text, read_plainly, row_text
from tests.plainly import refusal_of, some_deed
from tests.samples import (
    ALL_ON_ONE_PLACE, ALL_ON_TWO_PLACES, BACK_AND_FORTH, EVERY_TURN, FOUR_WORDS, MACHINES, NO_MACHINES, REACHES_254,
    REACHES_255, REACHES_256, TO_255, TWO_WORDS_ONE_PLACE, TWO_WORDS_TWO_PLACES,
)

WRITTEN = (
    (TWO_WORDS_ONE_PLACE, "2 1\nturn 0 10 1"),
    (TWO_WORDS_TWO_PLACES, "2 2\njoin 0 1 01,10 1\njoin 1 0 01,10 1"),
    (ALL_ON_ONE_PLACE, "3 1\nturn 0 120 1\njoin 0 0 012,120,201 2\nmove 0 0 3\nput 0 2 1"),
    (
        FOUR_WORDS,
        "4 2\nturn 0 3210 2\njoin 1 1 3000,0200,0010,0000 3\nmove 1 0 1\nput 0 3 1\nmove 1 1 2",
    ),
    (
        ALL_ON_TWO_PLACES,
        "3 2\nturn 1 220 3\njoin 0 1 001,211,022 2\njoin 1 0 102,220,110 1\nmove 0 1 1\nput 1 1 2\nturn 0 120 1",
    ),
)
SIGNS = " \t\n,-/.+_0123456789xt"
NO_TEXTS = (None, True, False, 0, 2, (), [], ["2 1"], ("2 1\nmove 0 0 1",), (2, 1, (("move", 0, 0, 1),)))


def any_machines(seed, many):
    chance = random.Random(seed)
    for _ in range(many):
        words, places = chance.randint(2, 4), chance.randint(1, 2)
        yield (words, places, tuple(some_deed(chance, words, places) for _ in range(chance.randint(1, 6))))


class MachineTextTest(unittest.TestCase):
    def no_text(self, text):
        self.assertIs(type(refusal_of(read_machine, text)), NoText, text)

    def test_written_out(self):
        for machine, text in WRITTEN:
            self.assertEqual(show_machine(machine), text)
            self.assertEqual(read_machine(text), machine)

    def test_read_is_what_was_written(self):
        for machine in (
            *MACHINES, EVERY_TURN, REACHES_254, REACHES_255, REACHES_256, TO_255, BACK_AND_FORTH,
            *any_machines(50, 300),
        ):
            text = show_machine(machine)
            self.assertEqual(text, machine_text(machine))
            told = read_machine(text)
            self.assertEqual(told, machine)
            self.assertTrue(is_machine(told))

    def test_one_and_six_deeds(self):
        head, deed = "2 1", "\nmove 0 0 1"
        for many in range(9):
            text = head + deed * many
            if 1 <= many <= 6:
                self.assertEqual(read_machine(text), (2, 1, (("move", 0, 0, 1),) * many))
                self.assertEqual(show_machine(read_machine(text)), text)
            else:
                self.no_text(text)

    def test_all_sizes(self):
        for words in range(10):
            for places in range(10):
                text = f"{words} {places}\nmove 0 0 1"
                if words in (2, 3, 4) and places in (1, 2):
                    self.assertEqual(read_machine(text), (words, places, (("move", 0, 0, 1),)))
                else:
                    self.no_text(text)

    def test_all_numbers_of_little_deeds(self):
        for words, places in ((2, 1), (3, 2)):
            for one in range(10):
                for other in range(10):
                    for cost in range(10):
                        for sort, most in (("move", places), ("put", words)):
                            text = f"{words} {places}\n{sort} {one} {other} {cost}"
                            if one < places and other < most and 1 <= cost <= 3:
                                self.assertEqual(read_machine(text), (words, places, ((sort, one, other, cost),)))
                            else:
                                self.no_text(text)

    def test_tables_of_all_lengths(self):
        for words in (2, 3, 4):
            for long in range(7):
                text = f"{words} 1\nturn 0 {'1' * long} 1"
                if long == words:
                    self.assertEqual(read_machine(text), (words, 1, (("turn", 0, (1,) * words, 1),)))
                else:
                    self.no_text(text)
                for many in range(7):
                    text = f"{words} 1\njoin 0 0 {','.join(['0' * long] * many)} 2"
                    if long == many == words:
                        self.assertEqual(read_machine(text), (words, 1, (("join", 0, 0, ((0,) * words,) * words, 2),)))
                    else:
                        self.no_text(text)

    def test_no_texts_written_out(self):
        for text in (
            "", " ", "\n", "-", "2", "2 1", "2 1\n", "2 1 \nmove 0 0 1", "2 1\n\nmove 0 0 1", "2 1\nmove 0 0 1\n",
            "\n2 1\nmove 0 0 1", " 2 1\nmove 0 0 1", "2  1\nmove 0 0 1", "2\t1\nmove 0 0 1", "2,1\nmove 0 0 1",
            "2 1 1\nmove 0 0 1", "21\nmove 0 0 1", "2 1/move 0 0 1", "02 1\nmove 0 0 1", "+2 1\nmove 0 0 1",
            "2 1\nMove 0 0 1", "2 1\nmoves 0 0 1", "2 1\nmove 0 0 1 ", "2 1\n move 0 0 1", "2 1\nmove  0 0 1",
            "2 1\nmove 0 0", "2 1\nmove 0 0 1 1", "2 1\nmove", "2 1\nmove ", "2 1\nmove 00 0 1", "2 1\nmove -1 0 1",
            "2 1\nmove 0 0 01", "2 1\nput 0 1", "2 1\nput 0 1 1 1", "2 1\nput 0 10 1", "2 1\nput 0 None 1",
            "2 1\nturn 0 0 10 1", "2 1\nturn 0 1 0 1", "2 1\nturn 0 1,0 1", "2 1\nturn 0 10", "2 1\nturn 10 0 1",
            "2 1\nturn 0 (1, 0) 1", "2 1\njoin 0 0 0110 1", "2 1\njoin 0 0 01,10, 1", "2 1\njoin 0 0 ,01,10 1",
            "2 1\njoin 0 0 01, 10 1", "2 1\njoin 0 0 01 10 1", "2 1\njoin 0 01,10 1", "2 1\njoin 0 0 01,,10 1",
            "2 1\nturn 0 01,10 1", "2 1\njoin 0 0 0,1 1", "2 1\njoin 0 0 01,1 1", "2 1\nskip 0 0 1", "2 1\n0 0 1",
            "2 1\nmove 0 0 1\n2 1", "2 1\nmove 0 0 1\n\n", "2 1\r\nmove 0 0 1", "2 1\nmove 0 0 1\nput 0 2 1",
            "2 1\nmove 0 0 1\nmove 0 1 1", "2 1\nturn 1 01 1", "2 1\nturn 0 02 1", "2 1\njoin 0 0 01,12 1",
        ):
            self.no_text(text)
        for thing in NO_TEXTS:
            self.no_text(thing)

    def test_bent_texts(self):
        read = refused = 0
        for machine, text in WRITTEN:
            for other in bent(text, SIGNS, ("  ", " 0", "\nput 0 0 1", "move", "01", "0,", ",10")):
                if is_machine_text(other):
                    self.assertEqual(read_machine(other), read_plainly(other), other)
                    self.assertEqual(show_machine(read_machine(other)), other)
                    read += 1
                else:
                    self.no_text(other)
                    refused += 1
        self.assertGreater(min(read, refused), 100)

    def test_lines_that_change_places(self):
        for machine, text in WRITTEN:
            head, *lines = text.split("\n")
            self.assertEqual(read_machine("\n".join([head] + lines[::-1])), machine[:2] + (machine[2][::-1],))
            self.no_text("\n".join(lines + [head]))
            self.no_text("\n".join(lines))
            self.no_text(text.replace(" ", "\t"))
            self.no_text(text.replace("\n", "/"))
            self.no_text(text.replace("\n", " "))
            self.no_text(text.upper())

    def test_no_machine(self):
        for thing in NO_MACHINES:
            self.assertIs(type(refusal_of(show_machine, thing)), NoMachine)


class RowTextTest(unittest.TestCase):
    def no_text(self, text):
        self.assertIs(type(refusal_of(read_row, text)), NoText, text)

    def test_written_out(self):
        for row, text in (
            ([], "-"), ([0], "0"), ([5, 0, 3], "5,0,3"), ([1, 1], "1,1"), ([0, 1, 2, 3, 4, 5], "0,1,2,3,4,5"),
        ):
            self.assertEqual(show_row(row), text)
            self.assertEqual(read_row(text), row)
            self.assertIs(type(read_row(text)), list)

    def test_read_is_what_was_written(self):
        chance = random.Random(51)
        for long in list(range(41)) * 3:
            row = [chance.randrange(6) for _ in range(long)]
            kept = list(row)
            text = show_row(row)
            self.assertEqual(row, kept)
            self.assertEqual(text, row_text(row))
            self.assertEqual(read_row(text), row)

    def test_forty_and_forty_one(self):
        self.assertEqual(read_row(",".join("5" * 40)), [5] * 40)
        for long in (41, 42, 100):
            self.no_text(",".join("5" * long))

    def test_longer_rows_are_written(self):
        for long in (41, 120):
            self.assertEqual(show_row([1] * long), ",".join("1" * long))

    def test_numbers_from_0_to_5(self):
        for number in range(12):
            if number <= 5:
                self.assertEqual(read_row(str(number)), [number])
                self.assertEqual(read_row(f"0,{number}"), [0, number])
            else:
                self.no_text(str(number))
                self.no_text(f"0,{number}")
                self.no_text(f"{number},0")

    def test_no_texts_written_out(self):
        for text in (
            "", " ", ",", "--", "-,", ",-", "-,0", "0,-", "0-", "-0", "-1", "+1", "0,", ",0", "0,,1", "0, 1", "0 ,1",
            " 0", "0 ", "0\n", "\n0", "0\t", "-\n", " -", "- ", "01", "00", "0,01", "0.1", "0;1", "0 1", "10", "a",
            "0,a", "None", "True", "[0]", "0,1,", "0,1\n2", "0,1,2,3,4,5,6", "0_1", "1_", "0/1",
        ):
            self.no_text(text)
        for thing in NO_TEXTS + ([0], [0, 1], (0,)):
            self.no_text(thing)

    def test_bent_texts(self):
        read = refused = 0
        for text in ("-", "0", "5", "0,1", "5,4,3,2,1,0", ",".join("012" * 13), ",".join("012345" * 7)[:79]):
            for other in bent(text, SIGNS, (",0", "0,", "10", ",,", "-,")):
                if is_row_text(other):
                    self.assertEqual(read_row(other), [] if other == "-" else [int(part) for part in other.split(",")])
                    self.assertEqual(show_row(read_row(other)), other)
                    read += 1
                else:
                    self.no_text(other)
                    refused += 1
        self.assertGreater(min(read, refused), 100)

    def test_lists_of_the_asker_s_own(self):
        for text in ("-", "0,1"):
            one, other = read_row(text), read_row(text)
            one.append(3)
            self.assertEqual(other, read_row(text))
            self.assertNotEqual(one, other)


if __name__ == "__main__":
    unittest.main()
