"""A shop: a row of a machine that is changed deed by deed, and what stands at each moment."""

from leastdeeds.alike import parted
from leastdeeds.errors import NoDeed, NoPlace, Nothing, TooLong
from leastdeeds.least import reached
from leastdeeds.machines import LONGEST_ROW, is_deed_number, need_row, summed_cost
from leastdeeds.runs import ends_of
from leastdeeds.wholes import is_between


class Shop:
    """A row of a machine, and all that is told of it."""

    def __init__(self, machine, row):
        need_row(machine, row)
        self.machine = machine
        # A row that stands is given anew by each change, never changed itself, so earlier ones stay as they were.
        self.standing = list(row)
        self.earlier = []

    def row(self):
        """The row that stands."""
        return list(self.standing)

    def cost(self):
        """The cost of the row that stands."""
        return summed_cost(self.machine, self.standing)

    def behaviour(self):
        """The behaviour of the row that stands."""
        return ends_of(self.machine, self.standing)

    def least(self):
        """The least cost of any row with the behaviour of the one that stands."""
        return reached(self.machine)[self.behaviour()][0]

    def put(self, place, number):
        """Put a deed in ahead of a place; tell the first beginning that ends otherwise now, or None."""
        if not is_between(place, 0, len(self.standing)):
            raise NoPlace("no deed can be put in there")
        if not is_deed_number(self.machine, number):
            raise NoDeed("the machine has no such deed")
        if len(self.standing) >= LONGEST_ROW:
            raise TooLong(f"a row has at most {LONGEST_ROW} deeds")
        return self.change(self.standing[:place] + [number] + self.standing[place:])

    def out(self, place):
        """Take a deed out; tell the first beginning that ends otherwise now, or None."""
        if not is_between(place, 0, len(self.standing) - 1):
            raise NoPlace("no deed stands there")
        return self.change(self.standing[:place] + self.standing[place + 1:])

    def back(self):
        """Undo the last change that stands; tell the first beginning that ends otherwise now, or None."""
        if not self.earlier:
            raise Nothing("no change stands")
        return self.give(self.earlier.pop())

    def change(self, row):
        """Let another row stand, and keep the one ahead of it."""
        self.earlier.append(self.standing)
        return self.give(row)

    def give(self, row):
        """Let another row stand; tell the first beginning from which it ends otherwise, or None."""
        start = parted(self.machine, self.standing, row)
        self.standing = row
        return start
