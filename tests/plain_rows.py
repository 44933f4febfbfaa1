"""Points 15 to 19 of the document, written once more, slow and plain, for the tests to hold the program against."""

import re

from leastdeeds.errors import (
    NoBound, NoDeed, NoLine, NoPlace, Nothing, NoWord, NoWork, TooLong, TooMany,
)
from tests.plainly import all_behaviours, does, fits, least_costs, nothing_done, price_of, starts_of


def windows_of(row):
    return [(place, long) for place in range(len(row)) for long in range(1, len(row) - place + 1)]


def dear_windows(machine, costs, row, most):
    """The windows at most so long that can be cheaper, by the least costs of all behaviours."""
    return [
        (place, long) for place, long in windows_of(row)
        if long <= most and costs[does(machine, row[place:place + long])] < price_of(machine, row[place:place + long])
    ]


def what_steps_make(machine, row, most, steps):
    """Point 16, sentence by sentence."""
    for place, long, put in steps:
        if (place, long) not in windows_of(row) or long > most:
            return None
        window = row[place:place + long]
        if any(number not in range(len(machine[2])) for number in put):
            return None
        if does(machine, put) != does(machine, window) or price_of(machine, put) >= price_of(machine, window):
            return None
        row = row[:place] + put + row[place + long:]
    return list(row)


def first_parted(machine, one, other):
    for start, end, other_end in zip(starts_of(machine), does(machine, one), does(machine, other)):
        if end != other_end:
            return start
    return None


def reaches_too_many(machine):
    try:
        return len(all_behaviours(machine, 255)) > 255
    except AssertionError:
        return True


class PlainShop:
    """Point 17: all rows that stood, the last one now; a refusal is told as its class."""

    def __init__(self, machine, row):
        self.machine = machine
        self.rows = [list(row)]

    def now(self):
        return self.rows[-1]

    def put(self, place, number):
        row = self.now()
        if type(place) is not int or not 0 <= place <= len(row):
            return NoPlace
        if type(number) is not int or not 0 <= number < len(self.machine[2]):
            return NoDeed
        if len(row) == 40:
            return TooLong
        self.rows.append(row[:place] + [number] + row[place:])
        return first_parted(self.machine, row, self.now())

    def out(self, place):
        row = self.now()
        if type(place) is not int or not 0 <= place < len(row):
            return NoPlace
        self.rows.append(row[:place] + row[place + 1:])
        return first_parted(self.machine, row, self.now())

    def back(self):
        if len(self.rows) == 1:
            return Nothing
        row = self.rows.pop()
        return first_parted(self.machine, row, self.now())

    def least(self):
        return TooMany if reaches_too_many(self.machine) else least_costs(self.machine)[does(self.machine, self.now())]


def joined(words):
    return "".join(map(str, words))


def deed_line(deed):
    match deed:
        case ("turn", at, table, cost):
            return f"turn {at} {joined(table)} {cost}"
        case ("join", at, other, tables, cost):
            return f"join {at} {other} {','.join(map(joined, tables))} {cost}"
        case ("move", at, other, cost):
            return f"move {at} {other} {cost}"
        case ("put", at, word, cost):
            return f"put {at} {word} {cost}"


def machine_text(machine):
    return f"{machine[0]} {machine[1]}" + "".join("\n" + deed_line(deed) for deed in machine[2])


def machine_pattern(words, places):
    word, place, cost = f"[0-{words - 1}]", f"[0-{places - 1}]", "[1-3]"
    table = f"{word}{{{words}}}"
    deeds = "|".join((
        f"turn {place} {table} {cost}", f"join {place} {place} {table}(?:,{table}){{{words - 1}}} {cost}",
        f"move {place} {place} {cost}", f"put {place} {word} {cost}",
    ))
    return f"{words} {places}(?:\n(?:{deeds})){{1,6}}"


MACHINE_TEXT = re.compile("|".join(machine_pattern(words, places) for words in (2, 3, 4) for places in (1, 2)))
ROW_TEXT = re.compile("-|[0-5](?:,[0-5]){0,39}")


def is_machine_text(text):
    return MACHINE_TEXT.fullmatch(text) is not None


def is_row_text(text):
    return ROW_TEXT.fullmatch(text) is not None


def row_text(row):
    return ",".join(map(str, row)) or "-"


def read_plainly(text):
    """The machine of a machine's text."""
    head, *lines = text.split("\n")
    deeds = []
    for line in lines:
        sort, *parts = line.split(" ")
        for place, part in enumerate(parts):
            if sort == "join" and place == 2:
                parts[place] = tuple(tuple(map(int, table)) for table in part.split(","))
            elif sort == "turn" and place == 1:
                parts[place] = tuple(map(int, part))
            else:
                parts[place] = int(part)
        deeds.append((sort, *parts))
    return (int(head[0]), int(head[2]), tuple(deeds))


LINE = re.compile(
    r"(?P<put>put (?P<at>0|[1-9][0-9]?) (?P<deed>[0-9]))|(?P<out>out (?P<gone>0|[1-9][0-9]?))|(?P<back>back)"
    r"|(?P<row>row)|(?P<cost>cost)|(?P<does>does)|(?P<least>least)|work (?P<work>[0-9.]+)|run (?P<run>[0-9]+)"
    r"|mend (?P<mend>[0-9])"
)


class PlainDesk:
    """Point 19; a refusal is told as its class, a mended row as a tuple of what it is held to."""

    def __init__(self):
        self.shop = None

    def say(self, line):
        if line.startswith("machine "):
            text = line.removeprefix("machine ")
            if "\n" in text or not is_machine_text(text.replace("/", "\n")):
                return NoLine
            self.shop = PlainShop(read_plainly(text.replace("/", "\n")), [])
            return "ok"
        found = LINE.fullmatch(line)
        if self.shop is None or found is None:
            return NoLine
        return self.answer(found, self.shop.machine, self.shop.now())

    def answer(self, found, machine, row):
        match found.lastgroup, found[found.lastgroup]:
            case ("put", _):
                return self.start(self.shop.put(int(found["at"]), int(found["deed"])))
            case ("out", _):
                return self.start(self.shop.out(int(found["gone"])))
            case ("back", _):
                return self.start(self.shop.back())
            case ("row", _):
                return row_text(row)
            case ("cost", _):
                return str(price_of(machine, row))
            case ("does", _):
                return ",".join(map(joined, does(machine, row)))
            case ("least", _):
                told = self.shop.least()
                return told if told is TooMany else str(told)
            case ("work", work):
                return self.work(machine, tuple(None if sign == "." else int(sign) for sign in work))
            case ("run", start):
                return self.run(machine, row, tuple(map(int, start)))
            case ("mend", most):
                return self.mend(machine, row, int(most))

    def start(self, told):
        if told is None:
            return "-"
        return joined(told) if isinstance(told, tuple) else told

    def work(self, machine, work):
        if len(work) != len(nothing_done(machine)) or any(word not in (None, *range(machine[0])) for word in work):
            return NoWork
        if reaches_too_many(machine):
            return TooMany
        costs = least_costs(machine)
        return str(min((costs[ends] for ends in costs if fits(ends, work)), default="none"))

    def run(self, machine, row, start):
        if start not in starts_of(machine):
            return NoWord
        place = starts_of(machine).index(start)
        return " ".join(joined(does(machine, row[:long])[place]) for long in range(len(row) + 1))

    def mend(self, machine, row, most):
        if len(row) > 12:
            return TooLong
        if not 1 <= most <= 6:
            return NoBound
        if reaches_too_many(machine):
            return TooMany
        return (machine, row, most)


def bent(text, signs, words=()):
    """A text with each sign left out, doubled, made another one, and others or words put in at each place."""
    made = {}
    for place in range(len(text) + 1):
        ahead, beyond = text[:place], text[place:]
        for sign in (*signs, *words):
            made[ahead + sign + beyond] = True
            made[ahead + sign + beyond[1:]] = True
        made[ahead + beyond[1:]] = True
        made[ahead + beyond[:1] + beyond] = True
        made[ahead] = True
        made[beyond] = True
    made.pop(text, None)
    return list(made)
