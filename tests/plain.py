"""What the document says, written down once more for the tests, as plainly as can be."""

from itertools import combinations, permutations, product


def all_tournaments(players):
    """Every tournament of so many players."""
    pairs = list(combinations(range(players), 2))
    for results in product((True, False), repeat=len(pairs)):
        rows = [[] for _ in range(players)]
        for (one, other), won in zip(pairs, results):
            rows[one if won else other].append(other if won else one)
        yield tuple(tuple(sorted(row)) for row in rows)


def residues(players):
    """A tournament of up to seven players with many triangles: those beaten are 1, 2 or 4 ahead of 7."""
    return tuple(
        tuple(other for other in range(players) if (other - one) % 7 in (1, 2, 4)) for one in range(players)
    )


def with_winner(tournament):
    """The tournament with one player more, who beats all."""
    return tournament + (tuple(range(len(tournament))),)


def with_loser(tournament):
    """The tournament with one player more, whom all beat."""
    return tuple(row + (len(tournament),) for row in tournament) + ((),)


def reversed_rows(tournament):
    """The tournament with all results turned."""
    players = range(len(tournament))
    return tuple(tuple(other for other in players if one in tournament[other]) for one in players)


def all_places(ring, players):
    """Every places of so many players on the ring."""
    return permutations(range(ring), players)


def circular_tournaments(players):
    """The tournaments of all places on rings of up to 2 N + 1 places, by steps that are counted one by one."""
    found = set()
    for ring in range(1, 2 * players + 2, 2):
        for places in all_places(ring, players):
            if places[0] == 0:
                found.add(tournament_of(ring, places))
    return found


def steps_ahead(ring, start, end):
    """How many places one goes ahead from the start until one stands at the end."""
    steps = 0
    while start != end:
        start = 0 if start == ring - 1 else start + 1
        steps += 1
    return steps


def tournament_of(ring, places):
    """The tournament of the places: each beats those who are less than half the ring ahead."""
    return tuple(
        tuple(
            other
            for other in range(len(places))
            if places[other] != start and 2 * steps_ahead(ring, start, places[other]) < ring
        )
        for start in places
    )


def is_triangle(tournament, x, y, z):
    """Whether (x, y, z) is a triangle, for players x, y and z."""
    return x == min(x, y, z) and y in tournament[x] and z in tournament[y] and x in tournament[z]


def all_triangles(tournament):
    """The triangles, by trying every three players."""
    threes = permutations(range(len(tournament)), 3)
    return sorted(three for three in threes if is_triangle(tournament, *three))


def is_obstruction(tournament, a, x, y, z):
    """Whether (a, x, y, z) is an obstruction, for players a, x, y and z."""
    if not is_triangle(tournament, x, y, z):
        return False
    over = all(other in tournament[a] for other in (x, y, z))
    under = all(a in tournament[other] for other in (x, y, z))
    return over or under


def all_obstructions(tournament):
    """The obstructions, by trying every four players."""
    fours = permutations(range(len(tournament)), 4)
    return sorted(four for four in fours if is_obstruction(tournament, *four))


def all_twins(tournament):
    """The pairs of twins, by looking at what becomes of the results of all others."""
    found = []
    for one, other in combinations(range(len(tournament)), 2):
        others = set(range(len(tournament))) - {one, other}
        if set(tournament[one]) & others == set(tournament[other]) & others:
            found.append((one, other))
    return found
