"""A desk: told rows of words, it answers with texts."""

from leastdeeds.errors import NoLine, NoText
from leastdeeds.least import least
from leastdeeds.mending import mended
from leastdeeds.runs import run
from leastdeeds.shop import Shop
from leastdeeds.texts import FIGURES, are_signs, read_machine, show_row, show_words

UNTOLD = "."
LONGEST_PLACE = 2


def read_number(text, longest):
    """A number of at most so many figures, none of them a 0 ahead of others."""
    if not are_signs(text, FIGURES) or len(text) > longest or (len(text) > 1 and text[0] == "0"):
        raise NoLine("a number should stand here")
    return int(text)


def read_words(text, signs):
    """Words without anything between, None for what is untold."""
    if not are_signs(text, signs):
        raise NoLine("words should stand here")
    return tuple([None if sign == UNTOLD else int(sign) for sign in text])


def show_start(start):
    """A beginning, or a dash for None."""
    return "-" if start is None else show_words(start)


def answer_put(shop, parts):
    """A deed is put in."""
    place, number = parts
    return show_start(shop.put(read_number(place, LONGEST_PLACE), read_number(number, 1)))


def answer_out(shop, parts):
    """A deed is taken out."""
    return show_start(shop.out(read_number(parts[0], LONGEST_PLACE)))


def answer_back(shop, parts):
    """The last change is undone."""
    return show_start(shop.back())


def answer_row(shop, parts):
    """The row."""
    return show_row(shop.row())


def answer_cost(shop, parts):
    """The row's cost."""
    return str(shop.cost())


def answer_does(shop, parts):
    """The row's behaviour."""
    return ",".join([show_words(end) for end in shop.behaviour()])


def answer_least(shop, parts):
    """The least cost of a row that does the same."""
    return str(shop.least())


def answer_work(shop, parts):
    """The least cost of a row that does a work, or none."""
    told = least(shop.machine, read_words(parts[0], FIGURES + UNTOLD))
    return str(told[1]) if told[0] == "row" else "none"


def answer_run(shop, parts):
    """All that stands in the row's run."""
    standings = run(shop.machine, shop.row(), read_words(parts[0], FIGURES))
    return " ".join([show_words(standing) for standing in standings])


def answer_mend(shop, parts):
    """A row that mending makes."""
    row, steps = mended(shop.machine, shop.row(), read_number(parts[0], 1))
    return show_row(row)


# By a row's first word and how many others it has.
ANSWERS = {
    ("put", 2): answer_put,
    ("out", 1): answer_out,
    ("back", 0): answer_back,
    ("row", 0): answer_row,
    ("cost", 0): answer_cost,
    ("does", 0): answer_does,
    ("least", 0): answer_least,
    ("work", 1): answer_work,
    ("run", 1): answer_run,
    ("mend", 1): answer_mend,
}


def shop_of(text):
    """A shop of the empty row, of a machine's text with / for each line feed."""
    if "\n" in text:
        raise NoLine("a row has no line feed")
    try:
        machine = read_machine(text.replace("/", "\n"))
    except NoText:
        raise NoLine("no machine's text stands here") from None
    return Shop(machine, [])


class Desk:
    """Where rows of words are told and answered, over one shop at a time."""

    def __init__(self):
        self.shop = None

    def say(self, row):
        """The answer to a row."""
        if not isinstance(row, str):
            raise NoLine("a row is a text")
        first, blank, text = row.partition(" ")
        if first == "machine":
            self.shop = shop_of(text)
            return "ok"
        parts = text.split(" ") if blank else []
        if self.shop is None or (first, len(parts)) not in ANSWERS:
            raise NoLine("no such row is answered now")
        answer = ANSWERS[(first, len(parts))]
        return answer(self.shop, parts)
