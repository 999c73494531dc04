"""Values of wrong kinds and forms, and how the refusals are tested."""

from ringbeats.errors import BadValue

NO_INTEGERS = [True, False, None, "0", "", (0,), [0], (), []]
NO_RINGS = NO_INTEGERS + [0, -1, -3, 2, 4, 5 * 2, 30, 32, 33, 35, 10**30 + 1]
NO_FACTORS = NO_RINGS

# Each of these is no places on the ring 5.
NO_PLACES = [
    None, True, False, 0, 3, "0", "02", "", [], [0], [0, 2, 4], (),
    (True,), (False,), (0, True), (False, 1), (0, 2, True), (None,), (0, None), ("0",), (0, "2"),
    ((0,),), (0, (2,)), ([0],), (0, [2]), ((),), (0, []),
    (-1,), (0, -1), (5,), (0, 5), (6,), (4, 3, 5), (0, 10**30),
    (0, 0), (0, 1, 0), (4, 2, 3, 4), (0, 1, 2, 3, 4, 0),
]

NINE_IN_A_ROW = tuple(tuple(range(player + 1, 9)) for player in range(9))

NO_TOURNAMENTS = [
    None, True, False, 0, 1, 3, "", "0", "()", (), [], [[]], [()], ([],), [(1,), ()], ([1], []), ((1,), []),
    (None,), (True,), (0,), ("",), (1, 0), ((1,), None), ((1,), 0), ((1,), False), ((1,), ""), ("1", ()), ((1,), {}),
    # None beats itself, and all whom one beats are players.
    ((0,),), ((0, 1), ()), ((1,), (1,)), ((1,), (2,)), ((2,), (0,)), ((-1,), ()), ((-1,), (0,)), ((1,), (-1,)),
    ((1, 2), ()), ((1,), (2,), (0, 3)), ((1,), (2,), (0, -1)), ((10**30,), ()),
    # The players are integers.
    ((True,), ()), ((), (False,)), ((True, 2), (2,), ()), ((1,), (2,), (False,)), (("1",), ()), ((None,), ()),
    (((1,),), ()), (([1],), ()), ((1, None), (2,), ()), ((1,), (2,), ((0,),)),
    # The tuples are ascending.
    ((2, 1), (2,), ()), ((1, 1), ()), ((1, 1, 2), (2,), ()), ((1, 2, 2), (2,), ()), ((1, 3, 2), (2,), (3,), (1,)),
    # Exactly one of two players beats the other one: no result is told twice or left out.
    ((), ()), ((1,), (0,)), ((1, 2), (2,), (0,)), ((1,), (2,), (0, 1)), ((1, 2), (), ()), ((1,), (2,), ()),
    ((1,), (0, 2), (0,)), ((1, 2), (0, 2), (0, 1)), ((), (), ()),
    # There are at most eight players.
    NINE_IN_A_ROW, NINE_IN_A_ROW[::-1], ((),) * 9, ((),) * 1000,
]


# Each of these is no ascending tuple of players of a tournament of three; the empty one is told apart.
NO_PLAYERS = [
    None, True, False, 0, 1, 3, "", "0", "012", [], [0], [0, 1, 2], {}, ((),), ((0,),), ([0],), (0, (1,)),
    (None,), (0, None), ("0",), (0, "1"), (True,), (False,), (0, True), (False, 1), (0, 1, True),
    (-1,), (-1, 0), (0, -1), (3,), (0, 3), (0, 1, 2, 3), (4,), (10**30,), (0, 10**30),
    (0, 0), (1, 1), (1, 0), (2, 1), (0, 2, 1), (0, 1, 1), (0, 0, 1, 2), (2, 1, 0), (0, 1, 2, 2), (0,) * 1000,
]

# Each of these is no tuple that has each of three players once.
NO_ORDERS = [
    None, True, False, 0, 3, "", "012", (), [], [0, 1, 2], {}, (0,), (0, 1), (1, 2), (0, 1, 2, 3), (0, 1, 2, 0),
    (0, 0, 1), (0, 1, 1), (1, 1, 1), (2, 2, 0), (1, 2, 3), (0, 1, 3), (-1, 0, 1), (0, 1, -1), (0, 1, 10**30),
    (False, 1, 2), (0, True, 2), (2, True, False), (None, 1, 2), (0, 1, None), ("0", 1, 2), (0, 1, "2"),
    ((0,), 1, 2), (0, 1, [2]), ((0, 1, 2),), ((0, 1, 2), ()), (0, 1, 2) * 2, (0, 1, 2) * 1000,
]

# Each of these is no player of a tournament of three.
NO_PLAYER = [None, True, False, -1, -3, 3, 4, 8, 10**30, "", "0", (), (0,), [], [0], {}]


def name_of_refusal(call, *arguments):
    """The name in the BadValue that the call raises, or what it returns instead."""
    try:
        return ("returned", call(*arguments))
    except BadValue as error:
        return error.name
