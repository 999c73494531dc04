"""What the document says, written down once more for the tests, as plainly as can be."""

from functools import lru_cache
from itertools import combinations, permutations, product


def all_tournaments(players):
    """Every tournament of so many players."""
    pairs = list(combinations(range(players), 2))
    for results in product((True, False), repeat=len(pairs)):
        rows = [[] for _ in range(players)]
        for (one, other), won in zip(pairs, results):
            rows[one if won else other].append(other if won else one)
        yield tuple(tuple(sorted(row)) for row in rows)


def residues(players):
    """A tournament of up to seven players with many triangles: those beaten are 1, 2 or 4 ahead of 7."""
    return tuple(
        tuple(other for other in range(players) if (other - one) % 7 in (1, 2, 4)) for one in range(players)
    )


def with_winner(tournament):
    """The tournament with one player more, who beats all."""
    return tournament + (tuple(range(len(tournament))),)


def with_loser(tournament):
    """The tournament with one player more, whom all beat."""
    return tuple(row + (len(tournament),) for row in tournament) + ((),)


def reversed_rows(tournament):
    """The tournament with all results turned."""
    players = range(len(tournament))
    return tuple(tuple(other for other in players if one in tournament[other]) for one in players)


def all_places(ring, players):
    """Every places of so many players on the ring."""
    return permutations(range(ring), players)


@lru_cache(maxsize=None)
def circular_tournaments(players):
    """The tournaments of all places on rings of up to 2 N + 1 places, by steps that are counted one by one."""
    found = set()
    for ring in range(1, 2 * players + 2, 2):
        for places in all_places(ring, players):
            if places[0] == 0:
                found.add(tournament_of(ring, places))
    return found


@lru_cache(maxsize=None)
def steps_ahead(ring, start, end):
    """How many places one goes ahead from the start until one stands at the end."""
    steps = 0
    while start != end:
        start = 0 if start == ring - 1 else start + 1
        steps += 1
    return steps


def tournament_of(ring, places):
    """The tournament of the places: each beats those who are less than half the ring ahead."""
    return tuple(
        tuple(
            other
            for other in range(len(places))
            if places[other] != start and 2 * steps_ahead(ring, start, places[other]) < ring
        )
        for start in places
    )


def is_triangle(tournament, x, y, z):
    """Whether (x, y, z) is a triangle, for players x, y and z."""
    return x == min(x, y, z) and y in tournament[x] and z in tournament[y] and x in tournament[z]


def all_triangles(tournament):
    """The triangles, by trying every three players."""
    threes = permutations(range(len(tournament)), 3)
    return sorted(three for three in threes if is_triangle(tournament, *three))


def is_obstruction(tournament, a, x, y, z):
    """Whether (a, x, y, z) is an obstruction, for players a, x, y and z."""
    if not is_triangle(tournament, x, y, z):
        return False
    over = all(other in tournament[a] for other in (x, y, z))
    under = all(a in tournament[other] for other in (x, y, z))
    return over or under


def all_obstructions(tournament):
    """The obstructions, by trying every four players."""
    fours = permutations(range(len(tournament)), 4)
    return sorted(four for four in fours if is_obstruction(tournament, *four))


def all_twins(tournament):
    """The pairs of twins, by looking at what becomes of the results of all others."""
    found = []
    for one, other in combinations(range(len(tournament)), 2):
        others = set(range(len(tournament))) - {one, other}
        if set(tournament[one]) & others == set(tournament[other]) & others:
            found.append((one, other))
    return found


def beats(tournament, one, other):
    return other in tournament[one]


def is_transitive(tournament):
    """Whether there is no triangle."""
    return not all_triangles(tournament)


def all_orders(tournament):
    """The tuples of all players in which each beats all behind it."""
    found = []
    for order in permutations(range(len(tournament))):
        if all(beats(tournament, one, other) for one, other in combinations(order, 2)):
            found.append(order)
    return found


def tournament_by(players, winner):
    """The tournament of so many players in which of one < other winner(one, other) beats the other one of both."""
    rows = [[] for _ in range(players)]
    for one, other in combinations(range(players), 2):
        won = winner(one, other)
        rows[won].append(one + other - won)
    return tuple(tuple(sorted(row)) for row in rows)


def restricted_rows(tournament, players):
    """The tournament of these players alone, numbered anew in their order."""
    return tournament_by(len(players), lambda a, b: a if beats(tournament, players[a], players[b]) else b)


def renamed_rows(tournament, order):
    """The tournament in which order[x] beats order[y] if x beats y."""
    old = {order[x]: x for x in range(len(order))}
    return tournament_by(len(order), lambda a, b: a if beats(tournament, old[a], old[b]) else b)


def switched_rows(tournament, players):
    """The tournament in which the results between these players and the others are turned."""
    def winner(one, other):
        turned = len({one, other} & set(players)) == 1
        return one if beats(tournament, one, other) != turned else other

    return tournament_by(len(tournament), winner)


def subsets(players):
    """The ascending tuples of some of so many players, the empty one among them, in the order of tuples."""
    return sorted(found for many in range(players + 1) for found in combinations(range(players), many))


def all_signed_orders(players):
    """Every signed order of so many players."""
    for order in permutations(range(players)):
        for signs in product((True, False), repeat=players):
            yield tuple(zip(order, signs))


def nth_signed_order(players, number):
    """A signed order that begins with player 0 itself; each number from 0 on, up to their number, has its own."""
    left = list(range(1, players))
    order = [(0, True)]
    while left:
        number, at = divmod(number, len(left))
        number, sign = divmod(number, 2)
        order.append((left.pop(at), sign == 0))
    return tuple(order)


def stood_for(order):
    """The tournament for which the signed order stands."""
    places = {player: at for at, (player, _) in enumerate(order)}
    signs = dict(order)

    def winner(one, other):
        earlier, later = sorted((one, other), key=places.get)
        return earlier if signs[earlier] == signs[later] else later

    return tournament_by(len(order), winner)


@lru_cache(maxsize=None)
def signed_orders_by_tournament(players):
    """For each tournament of so many players that has signed orders, the list of these."""
    found = {}
    for order in all_signed_orders(players):
        found.setdefault(stood_for(order), []).append(order)
    return found


def opposites(order):
    return tuple((player, not itself) for player, itself in order)


def all_turns(order):
    """The turns of a signed order, by putting the opposite of its first entry behind it, again and again."""
    found = []
    for _ in range(2 * len(order)):
        found.append(order)
        order = order[1:] + opposites(order[:1])
    return found


def all_steps(order):
    """The steps of a signed order, the one to the opposite of the first entry among them."""
    row = order + opposites(order[:1])
    return [2 if row[at][1] == row[at + 1][1] else 1 for at in range(len(order))]


@lru_cache(maxsize=None)
def ways_by_tournament(players, ring):
    """For each tournament that comes by places of so many players on the ring, the ascending list of these."""
    found = {}
    for places in all_places(ring, players):
        found.setdefault(tournament_of(ring, places), []).append(places)
    return found
