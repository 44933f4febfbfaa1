"""Machines and rows written as texts, and read from them."""

from leastdeeds.errors import NoText
from leastdeeds.machines import LONGEST_ROW, MOST_DEEDS, is_machine, need_machine
from leastdeeds.wholes import is_between

FIGURES = "0123456789"


def show_words(words):
    """Words without anything between."""
    return "".join([str(word) for word in words])


def show_part(part):
    """A deed's place, word, cost, table or double table."""
    if isinstance(part, int):
        return str(part)
    if isinstance(part[0], int):
        return show_words(part)
    return ",".join([show_words(table) for table in part])


def show_deed(deed):
    """A deed's line."""
    return " ".join([deed[0]] + [show_part(part) for part in deed[1:]])


def show_machine(machine):
    """A machine's text."""
    need_machine(machine)
    words, places, deeds = machine
    return "\n".join([f"{words} {places}"] + [show_deed(deed) for deed in deeds])


def show_row(row):
    """A row's text."""
    return ",".join([str(number) for number in row]) if row else "-"


def are_signs(text, signs):
    """Whether a text has one sign at least, and only some signs."""
    return text != "" and all([sign in signs for sign in text])


def read_figure(text):
    """The number of a single figure."""
    if len(text) != 1 or not are_signs(text, FIGURES):
        raise NoText("a single figure should stand here")
    return int(text)


def read_table(text):
    """The words of a table."""
    return tuple([read_figure(sign) for sign in text])


def read_part(text):
    """A deed's place, word, cost, table or double table."""
    # A machine has two words at least, so no table is as short as a number, no double table without a comma.
    if "," in text:
        return tuple([read_table(table) for table in text.split(",")])
    return read_figure(text) if len(text) == 1 else read_table(text)


def read_deed(line):
    """What stands in a deed's line, a deed or something like it."""
    parts = line.split(" ")
    return (parts[0],) + tuple([read_part(part) for part in parts[1:]])


def read_machine(text):
    """The machine of a text."""
    if not isinstance(text, str):
        raise NoText("a machine is read from a text")
    lines = text.split("\n")
    sizes = [read_figure(part) for part in lines[0].split(" ")]
    machine = tuple(sizes) + (tuple([read_deed(line) for line in lines[1:]]),)
    if not is_machine(machine):
        raise NoText("this is no machine's text")
    return machine


def read_row(text):
    """The row of a text, of whatever machine."""
    if not isinstance(text, str):
        raise NoText("a row is read from a text")
    if text == "-":
        return []
    row = [read_figure(part) for part in text.split(",")]
    if len(row) > LONGEST_ROW or not all([is_between(number, 0, MOST_DEEDS - 1) for number in row]):
        raise NoText("this is no row's text")
    return row
