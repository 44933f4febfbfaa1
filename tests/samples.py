"""Machines, and things that are none of what is asked for, for the tests."""

TWO_WORDS_ONE_PLACE = (2, 1, (("turn", 0, (1, 0), 1),))

ALL_ON_ONE_PLACE = (3, 1, (
    ("turn", 0, (1, 2, 0), 1),
    ("join", 0, 0, ((0, 1, 2), (1, 2, 0), (2, 0, 1)), 2),
    ("move", 0, 0, 3),
    ("put", 0, 2, 1),
))

# The join's table is not the same mirrored, so that own and other can't be mixed up.
ALL_ON_TWO_PLACES = (3, 2, (
    ("turn", 1, (2, 2, 0), 3),
    ("join", 0, 1, ((0, 0, 1), (2, 1, 1), (0, 2, 2)), 2),
    ("join", 1, 0, ((1, 0, 2), (2, 2, 0), (1, 1, 0)), 1),
    ("move", 0, 1, 1),
    ("put", 1, 1, 2),
    ("turn", 0, (1, 2, 0), 1),
))

FOUR_WORDS = (4, 2, (
    ("turn", 0, (3, 2, 1, 0), 2),
    ("join", 1, 1, ((3, 0, 0, 0), (0, 2, 0, 0), (0, 0, 1, 0), (0, 0, 0, 0)), 3),
    ("move", 1, 0, 1),
    ("put", 0, 3, 1),
    ("move", 1, 1, 2),
))

TWO_WORDS_TWO_PLACES = (2, 2, (
    ("join", 0, 1, ((0, 1), (1, 0)), 1),
    ("join", 1, 0, ((0, 1), (1, 0)), 1),
))

MACHINES = (
    TWO_WORDS_ONE_PLACE, ALL_ON_ONE_PLACE, ALL_ON_TWO_PLACES, FOUR_WORDS, TWO_WORDS_TWO_PLACES,
)

# Its rows reach every behaviour of one place with four words: 256.
EVERY_TURN = (4, 1, (
    ("turn", 0, (1, 2, 3, 0), 1),
    ("turn", 0, (1, 0, 2, 3), 1),
    ("turn", 0, (0, 0, 2, 3), 1),
))

# The rows of these reach 254, 255, 256 and 257 behaviours.
REACHES_254 = (4, 2, (
    ("join", 1, 0, ((3, 1, 1, 2), (1, 3, 1, 3), (1, 0, 0, 1), (1, 2, 1, 2)), 1),
    ("join", 0, 0, ((0, 1, 3, 1), (3, 0, 0, 3), (3, 0, 1, 0), (1, 2, 1, 2)), 2),
))
REACHES_255 = (4, 2, (
    ("turn", 1, (0, 1, 0, 1), 1),
    ("join", 1, 0, ((0, 3, 1, 1), (3, 1, 3, 2), (2, 1, 0, 1), (1, 2, 0, 3)), 2),
))
REACHES_256 = (3, 2, (
    ("join", 0, 1, ((1, 0, 2), (2, 0, 1), (2, 1, 1)), 3),
    ("put", 1, 2, 3),
    ("turn", 1, (0, 2, 1), 1),
))
REACHES_257 = (3, 2, (
    ("join", 1, 0, ((2, 2, 2), (2, 2, 1), (2, 2, 1)), 2),
    ("join", 0, 1, ((0, 2, 1), (2, 1, 2), (0, 0, 2)), 1),
))

# Two deeds, each undone by itself: 240 behaviours, the dearest one of 120 deeds in turns.
BACK_AND_FORTH = (4, 2, (
    ("join", 0, 1, ((1, 3, 1, 3), (0, 2, 0, 2), (3, 1, 2, 1), (2, 0, 3, 0)), 1),
    ("join", 1, 0, ((2, 0, 2, 3), (1, 1, 3, 2), (0, 3, 0, 1), (3, 2, 1, 0)), 1),
))

# Rows that cost at most 9 have 255 behaviours here, those that cost at most 10 have more.
TO_255 = (4, 2, (
    ("put", 1, 2, 3),
    ("move", 0, 1, 1),
    ("turn", 1, (0, 0, 3, 3), 1),
    ("join", 1, 0, ((1, 0, 2, 2), (2, 0, 3, 1), (2, 2, 1, 3), (1, 3, 1, 1)), 2),
))
# Rows that cost at most 10 have 242 behaviours here, those that cost at most 11 have 256.
TO_256 = (3, 2, (
    ("join", 0, 0, ((1, 2, 1), (2, 2, 1), (1, 1, 0)), 1),
    ("move", 1, 0, 2),
    ("join", 0, 0, ((1, 0, 2), (2, 2, 2), (2, 2, 2)), 1),
))

# None of these may stand anywhere in a machine, as a row's thing, or as a beginning's word.
STRANGE = (
    True, False, None, -1, -7, 99, 10 ** 30, "", "0", "1", "x", "Turn", "turn ", "puts", "\t\n",
    [], [0], [1], ["turn"], (), (True,), ((),), [[[[[[[[0]]]]]]]], (((((((("put",),),),),),),),),
)

NO_MACHINES = STRANGE + (
    0, 1, 2, "machine", (2,), (2, 1), [2, 1, (("move", 0, 0, 1),)], (2, 1, None), ("turn", 0, (1, 0), 1),
)
