"""Values of wrong kinds and forms, and how the refusals are tested."""

from ringbeats.errors import BadValue, RingError

NO_INTEGERS = [True, False, None, "0", "", (0,), [0], (), []]
NO_RINGS = NO_INTEGERS + [0, -1, -3, 2, 4, 5 * 2, 30, 32, 33, 35, 10**30 + 1]
NO_FACTORS = NO_RINGS

# Each of these is no places on the ring 5.
NO_PLACES = [
    None, True, False, 0, 3, "0", "02", "", [], [0], [0, 2, 4], (),
    (True,), (False,), (0, True), (False, 1), (0, 2, True), (None,), (0, None), ("0",), (0, "2"),
    ((0,),), (0, (2,)), ([0],), (0, [2]), ((),), (0, []),
    (-1,), (0, -1), (5,), (0, 5), (6,), (4, 3, 5), (0, 10**30),
    (0, 0), (0, 1, 0), (4, 2, 3, 4), (0, 1, 2, 3, 4, 0),
]

NINE_IN_A_ROW = tuple(tuple(range(player + 1, 9)) for player in range(9))

NO_TOURNAMENTS = [
    None, True, False, 0, 1, 3, "", "0", "()", (), [], [[]], [()], ([],), [(1,), ()], ([1], []), ((1,), []),
    (None,), (True,), (0,), ("",), (1, 0), ((1,), None), ((1,), 0), ((1,), False), ((1,), ""), ("1", ()), ((1,), {}),
    # None beats itself, and all whom one beats are players.
    ((0,),), ((0, 1), ()), ((1,), (1,)), ((1,), (2,)), ((2,), (0,)), ((-1,), ()), ((-1,), (0,)), ((1,), (-1,)),
    ((1, 2), ()), ((1,), (2,), (0, 3)), ((1,), (2,), (0, -1)), ((10**30,), ()),
    # The players are integers.
    ((True,), ()), ((), (False,)), ((True, 2), (2,), ()), ((1,), (2,), (False,)), (("1",), ()), ((None,), ()),
    (((1,),), ()), (([1],), ()), ((1, None), (2,), ()), ((1,), (2,), ((0,),)),
    # The tuples are ascending.
    ((2, 1), (2,), ()), ((1, 1), ()), ((1, 1, 2), (2,), ()), ((1, 2, 2), (2,), ()), ((1, 3, 2), (2,), (3,), (1,)),
    # Exactly one of two players beats the other one: no result is told twice or left out.
    ((), ()), ((1,), (0,)), ((1, 2), (2,), (0,)), ((1,), (2,), (0, 1)), ((1, 2), (), ()), ((1,), (2,), ()),
    ((1,), (0, 2), (0,)), ((1, 2), (0, 2), (0, 1)), ((), (), ()),
    # There are at most eight players.
    NINE_IN_A_ROW, NINE_IN_A_ROW[::-1], ((),) * 9, ((),) * 1000,
]


# Each of these is no ascending tuple of players of a tournament of three; the empty one is told apart.
NO_PLAYERS = [
    None, True, False, 0, 1, 3, "", "0", "012", [], [0], [0, 1, 2], {}, ((),), ((0,),), ([0],), (0, (1,)),
    (None,), (0, None), ("0",), (0, "1"), (True,), (False,), (0, True), (False, 1), (0, 1, True),
    (-1,), (-1, 0), (0, -1), (3,), (0, 3), (0, 1, 2, 3), (4,), (10**30,), (0, 10**30),
    (0, 0), (1, 1), (1, 0), (2, 1), (0, 2, 1), (0, 1, 1), (0, 0, 1, 2), (2, 1, 0), (0, 1, 2, 2), (0,) * 1000,
]

# Each of these is no tuple that has each of three players once.
NO_ORDERS = [
    None, True, False, 0, 3, "", "012", (), [], [0, 1, 2], {}, (0,), (0, 1), (1, 2), (0, 1, 2, 3), (0, 1, 2, 0),
    (0, 0, 1), (0, 1, 1), (1, 1, 1), (2, 2, 0), (1, 2, 3), (0, 1, 3), (-1, 0, 1), (0, 1, -1), (0, 1, 10**30),
    (False, 1, 2), (0, True, 2), (2, True, False), (None, 1, 2), (0, 1, None), ("0", 1, 2), (0, 1, "2"),
    ((0,), 1, 2), (0, 1, [2]), ((0, 1, 2),), ((0, 1, 2), ()), (0, 1, 2) * 2, (0, 1, 2) * 1000,
]

# Each of these is no player of a tournament of three.
NO_PLAYER = [None, True, False, -1, -3, 3, 4, 8, 10**30, "", "0", (), (0,), [], [0], {}]

# Each of these is no number of players of whom only some results are known.
NO_NUMBERS = NO_INTEGERS + [0, -1, 6, 8, 10**30]

# Each of these is no known results of three players.
NO_KNOWN = [
    None, True, False, 0, 3, "", "01", [], [(0, 1)], {}, (0,), (0, 1), (None,), (True,), ("01",), ((),), ((0,),),
    ((0, 1, 2),), ((0, 1, 1),), ([0, 1],), ((0, 1), [1, 2]), ((0, 1), None), ((0, 1), ()), ((0, 1), (1,)), (((0, 1),),),
    # Two different players.
    ((0, 0),), ((2, 2),), ((0, 1), (1, 1)), ((0, 3),), ((3, 0),), ((-1, 0),), ((0, -1),), ((0, 10**30),), ((3, 4),),
    # The players are integers.
    ((True, 0),), ((0, True),), ((False, 1),), ((1, False),), ((0, None),), ((None, 1),), (("0", 1),), ((0, "1"),),
    ((0, (1,)),), (([0], 1),), ((0, 1), (1, None)), ((0, 1), (True, 2)), ((0, False),), ((False, False),),
    # The tuple is ascending.
    ((1, 2), (0, 1)), ((0, 2), (0, 1)), ((0, 1), (0, 1)), ((0, 1), (1, 2), (1, 2)), ((0, 1), (2, 1), (0, 2)),
    # There is at most one result for any two players.
    ((0, 1), (1, 0)), ((0, 1), (1, 2), (2, 1)), ((0, 2), (1, 2), (2, 0)), ((1, 2), (2, 1)), ((0, 1),) * 1000,
    ((0, 1), (0, 2), (1, 0), (1, 2), (2, 0), (2, 1)), ((1, 0), (0, 1)),
]

NO_TEXTS = [
    None, True, False, 0, 1, (), [], (".",), ["."], {}, "\n", ".\n", "\n.", "5:\n0", "a\nb", " " * 300 + "\n",
    " " * 299 + "\n\n", " " * 301, "." * 301, "a" * 301, "\n" * 400, ". " * 151, "1" * 10**5,
]

NO_KINDS = [None, True, False, 0, "", "a ring", "Ring", "RING", "rings", "tournaments", " ring", "ring ", (), [],
            ("ring",), ["ring"], {}]

# Each of these is no command for three players.
NO_COMMANDS = [
    None, True, False, 0, "", "more", "know", (), [], ["more"], {}, (None,), (0,), ((),), (["more"],), ("More",), ("",),
    ("more ",), ("more", ()), ("more", None), ("more", 3), ("more", "more"), (("more",),), (True,), ("least",),
    ("know",), ("know", 0), ("know", 0, 1, 2), ("know", (0, 1)), ("know", [0, 1]), ["know", 0, 1], ("Know", 0, 1),
    ("know", 0, 0), ("know", 2, 2), ("know", 0, 3), ("know", 3, 0), ("know", -1, 0), ("know", 0, -1),
    ("know", 0, 10**30), ("know", True, 0), ("know", 0, True), ("know", False, 1), ("know", 1, False),
    ("know", None, 1), ("know", 0, None), ("know", "0", 1), ("know", 0, "1"), ("know", (0,), 1), ("know", 0, [1]),
    ("forget",), ("forget", 0), ("forget", 0, 1, 2), ("forget", (0, 1)), ["forget", 0, 1], ("forget", 1, 1),
    ("forget", 0, 3), ("forget", 3, 1), ("forget", -1, 0), ("forget", 2, -1), ("forget", True, 0),
    ("forget", 2, False), ("forget", None, 1), ("forget", 0, "1"), ("forget", 0, (1,)), (0, 1), ("no", 0, 1),
    ("switch",), ("switch", 0), ("switch", 0, 1), ("switch", (0,), (1,)), ["switch", ()], ("switch", None),
    ("switch", True), ("switch", []), ("switch", [0]), ("switch", "0"), ("switch", (3,)), ("switch", (-1,)),
    ("switch", (0, 3)), ("switch", (0, 0)), ("switch", (1, 0)), ("switch", (0, 2, 1)), ("switch", (True,)),
    ("switch", (False, 1)), ("switch", (0, None)), ("switch", ("0",)), ("switch", ((0,),)), ("switch", (0, 1, 2, 3)),
    ("switch", ([0],)), ("switch", (10**30,)), ("switch", (), ()), ("", ()), (None, 0, 1), (0, 0, 1),
]

# Each of these is no tuple of at most twenty tuples.
NO_JOURNALS = [
    None, True, False, 0, "", "more", [], [("more",)], {}, ("more",), (None,), (0,), (True,), ("",), ([],),
    (["more"],), (("more",), ["more"]), (("more",), None), (("know", 0, 1), "more"), (("switch", ()),) * 21,
    ((),) * 21, (("more",),) * 1000, (("switch", ()),) * 19 + ([],), (("know", 0, 0), None),
]


def name_of_refusal(call, *arguments):
    """The name in the BadValue that the call raises, or what it returns instead."""
    try:
        return ("returned", call(*arguments))
    except BadValue as error:
        return error.name


def refusal(call, *arguments):
    """The class and the attributes of the error that the call raises, or what it returns instead."""
    try:
        return ("returned", call(*arguments))
    except RingError as error:
        return (type(error), *vars(error).values())
