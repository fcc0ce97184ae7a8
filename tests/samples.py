"""Partings, and what is none, that the tests share."""


def partings_of(whole, most=None):
    """All partings of the whole with no part greater than most."""
    if whole == 0:
        return [[]]
    greatest = whole if most is None else min(whole, most)
    return [
        [part, *rest]
        for part in range(greatest, 0, -1)
        for rest in partings_of(whole - part, part)
    ]


def small_partings(most_whole=8):
    return [parting for whole in range(most_whole + 1) for parting in partings_of(whole)]


def own_turns(most_whole):
    """All partings of the wholes up to this one whose rows are as their columns."""
    return [parting for parting in small_partings(most_whole) if parting == columns_of(parting)]


def boxes_of(parting):
    return {(row, column) for row, part in enumerate(parting) for column in range(part)}


def columns_of(parting):
    """How many boxes each column of the stair has, from the left."""
    boxes = boxes_of(parting)
    columns = sorted({column for _, column in boxes})
    return [len([box for box in boxes if box[1] == column]) for column in columns]


def is_odd(parting):
    return all(part % 2 == 1 for part in parting)


def is_unlike(parting):
    return len(set(parting)) == len(parting)


def pairs_of_one_whole(most_whole=8):
    return [
        (one, other)
        for whole in range(most_whole + 1)
        for one in partings_of(whole)
        for other in partings_of(whole)
    ]


def small_stair(steps):
    """The parting steps, steps - 1, .. 1."""
    return list(range(steps, 0, -1))


# Partings of 200, from the highest to the lowest; each lies above the next one.
DOWN_FROM_200 = [
    [200],
    [199, 1],
    [150, 50],
    [100, 100],
    [100, 50, 50],
    [100] + [1] * 100,
    [50] + [1] * 150,
    [2] * 3 + [1] * 194,
    [1] * 200,
]

GREAT_PARTINGS = DOWN_FROM_200 + [
    [20] * 10,
    [10] * 20,
    [2] * 100,
    [67, 67, 66],
    small_stair(19) + [1] * 10,
    [29] + small_stair(18),
]

PARTINGS = small_partings() + GREAT_PARTINGS


def no_partings():
    """Things that are no partings, made anew at each call, each with a word that tells what it is."""
    within_itself = []
    within_itself.append(within_itself)
    return [
        ("a 0 alone", [0]),
        ("two noughts", [0, 0]),
        ("a 0 at the end", [3, 0]),
        ("a 0 between", [2, 0, 1]),
        ("a part below 0", [-1]),
        ("a last part below 0", [2, -1]),
        ("parts below 0 with the whole 0", [1, -1]),
        ("a part far below 0", [3, -(10 ** 5000)]),
        ("True", [True]),
        ("True behind", [2, True]),
        ("True between", [2, True, 1]),
        ("False", [False]),
        ("False behind", [2, False]),
        ("a text as a part", ["1"]),
        ("a text behind", [2, "1"]),
        ("an empty text behind", [2, ""]),
        ("bytes as a part", [b"1"]),
        ("None as a part", [None]),
        ("None behind", [2, None]),
        ("a list as a part", [[1]]),
        ("a list behind", [2, [1]]),
        ("an empty list as a part", [[]]),
        ("a tuple as a part", [(1,)]),
        ("a dict as a part", [{}]),
        ("a float as a part", [2.0]),
        ("a float behind", [2, 1.0]),
        ("a complex as a part", [1j]),
        ("a list within itself", within_itself),
        ("a part greater than the one ahead", [1, 2]),
        ("a later part greater than the one ahead", [3, 1, 2]),
        ("a last part greater than the one ahead, but not than the first", [5, 5, 3, 4]),
        ("a whole of 201 in one part", [201]),
        ("a whole of 201 in two parts", [200, 1]),
        ("a whole of 201 in halves", [101, 100]),
        ("a whole of 201 in ones", [1] * 201),
        ("a whole far beyond", [10 ** 5000]),
        ("a part of 201 behind", [200, 201]),
        ("very many ones", [1] * 100000),
        ("an empty tuple", ()),
        ("a tuple", (2, 1)),
        ("an empty text", ""),
        ("a text", "21"),
        ("bytes", b"\x02\x01"),
        ("a bytearray", bytearray(b"\x02\x01")),
        ("None", None),
        ("the number 0", 0),
        ("a number", 3),
        ("True in place of a list", True),
        ("False in place of a list", False),
        ("a float", 1.5),
        ("an empty dict", {}),
        ("a dict", {2: 1, 1: 0}),
        ("an empty set", set()),
        ("a set", {2, 1}),
        ("a range", range(3, 0, -1)),
        ("an iterator", iter([2, 1])),
        ("an object", object()),
        ("a class", list),
    ]


NO_NUMBERS = [
    ("True", True),
    ("False", False),
    ("None", None),
    ("a text", "0"),
    ("an empty text", ""),
    ("bytes", b"0"),
    ("a float", 1.0),
    ("an empty list", []),
    ("a list", [1]),
    ("a tuple", (1,)),
    ("a dict", {}),
    ("an object", object()),
]

# What is no number from 0 on.
NO_COUNTS = NO_NUMBERS + [
    ("one below 0", -1),
    ("two below 0", -2),
    ("far below 0", -(10 ** 5000)),
    ("a float 0", 0.0),
    ("a complex", 0j),
    ("a set", {1}),
]

# What is no whole of a parting.
NO_WHOLES = NO_COUNTS + [
    ("a whole of 201", 201),
    ("a whole of 1000", 1000),
    ("a whole far beyond", 10 ** 5000),
]
