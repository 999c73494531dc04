"""What the document says of numbered tournaments, known results and notebooks, once more for the tests."""

from functools import lru_cache
from itertools import combinations, permutations, product

from plain import all_signed_orders, beats, circular_tournaments, stood_for

MOST_COMMANDS = 20


def place_in_sequence(order):
    """What signed orders are put in sequence by: the lesser player first, and of the same one the player itself."""
    return [(player, 0 if itself else 1) for player, itself in order]


@lru_cache(maxsize=None)
def orders_in_sequence(players):
    """The signed orders that begin with player 0 itself, in sequence."""
    begun = [order for order in all_signed_orders(players) if order[0] == (0, True)]
    return sorted(begun, key=place_in_sequence)


@lru_cache(maxsize=None)
def tournaments_in_sequence(players):
    """The circular tournaments in the sequence of their told orders."""
    return [stood_for(order) for order in orders_in_sequence(players)]


def all_known(players):
    """All known results of so many players."""
    pairs = list(combinations(range(players), 2))
    for told in product((None, False, True), repeat=len(pairs)):
        yield tuple(sorted(pair[::-1] if turned else pair for pair, turned in zip(pairs, told) if turned is not None))


def some_known(players, step):
    """Each so many-th ones of the known results, beginning with none."""
    return list(all_known(players))[::step]


@lru_cache(maxsize=None)
def circular_ascending(players):
    return sorted(circular_tournaments(players))


def has_all(tournament, results):
    return all(beats(tournament, one, other) for one, other in results)


@lru_cache(maxsize=None)
def all_completions(players, results):
    """The completions of the results, in whatever sequence these are, by trying all circular tournaments."""
    return [tournament for tournament in circular_ascending(players) if has_all(tournament, results)]


def all_forced(players, results):
    """The forced results, ascending, or None if there is no completion."""
    found = all_completions(players, results)
    if not found:
        return None
    return tuple(pair for pair in permutations(range(players), 2) if has_all_of_them(found, pair))


def has_all_of_them(tournaments, result):
    return all(beats(tournament, *result) for tournament in tournaments)


def conflict(players, known):
    """The first conflict, or None if there is a completion."""
    for index in range(len(known)):
        if not all_completions(players, known[:index + 1]):
            return index
    return None


def question(players, known):
    """The best question, or None if a result is forced between any two players."""
    forced = all_forced(players, known)
    greater = {}
    for one, other in combinations(range(players), 2):
        if (one, other) not in forced and (other, one) not in forced:
            both = [len(all_completions(players, known + (result,))) for result in ((one, other), (other, one))]
            greater[one, other] = max(both)
    return min(greater, key=lambda pair: (greater[pair], pair), default=None)


def known_obstructions(players, results):
    """The obstructions all of whose six results are among these, by trying every four players."""
    found = []
    for a, x, y, z in permutations(range(players), 4):
        in_turn = x == min(x, y, z) and {(x, y), (y, z), (z, x)} <= set(results)
        over = {(a, x), (a, y), (a, z)} <= set(results)
        under = {(x, a), (y, a), (z, a)} <= set(results)
        if in_turn and (over or under):
            found.append((a, x, y, z))
    return found


def is_between(results, one, other):
    return (one, other) in results or (other, one) in results


def all_integers(value):
    return type(value) is tuple and all(type(item) is int for item in value)


def is_tree(players, results, value):
    """Point 100, for any value."""
    if type(value) is not tuple or len(value) not in (2, 5) or type(value[0]) is not str:
        return False
    if len(value) == 2:
        return value[0] == "no" and all_integers(value[1]) and value[1] in known_obstructions(players, results)
    word, one, other, first, second = value
    if word != "by" or not all_integers((one, other)) or (one, other) not in combinations(range(players), 2):
        return False
    if is_between(results, one, other):
        return False
    both = (results + ((one, other),), results + ((other, one),))
    return is_tree(players, both[0], first) and is_tree(players, both[1], second)


def is_completion(players, results, value):
    """Whether the value is a completion, of tuples and integers throughout."""
    return repr(value) in written_completions(players, results)


@lru_cache(maxsize=None)
def written_completions(players, results):
    return {repr(tournament) for tournament in all_completions(players, results)}


def is_pair_evidence(players, known, one, other, value):
    """Point 101, for any value."""
    if type(value) is not tuple or len(value) not in (2, 3) or type(value[0]) is not str:
        return False
    if len(value) == 2:
        return value[0] == "none" and is_tree(players, known, value[1])
    word, first, second = value
    if word == "open":
        won = is_completion(players, known + ((one, other),), first)
        return won and is_completion(players, known + ((other, one),), second)
    if word != "forced" or not is_completion(players, known, first):
        return False
    if is_between(known, one, other):
        return second is None
    contrary = (other, one) if beats(first, one, other) else (one, other)
    return is_tree(players, known + (contrary,), second)


def last_tree(players, results):
    """A tree of cases that asks as long as it can: the last two players first, even if it could end before."""
    pairs = [pair for pair in combinations(range(players), 2) if not is_between(results, *pair)]
    if not pairs:
        return "no", known_obstructions(players, results)[-1]
    one, other = pairs[-1]
    return ("by", one, other, last_tree(players, results + ((one, other),)),
            last_tree(players, results + ((other, one),)))


def all_commands(players):
    """Every command for so many players, possible or not."""
    for word in ("know", "forget"):
        for one, other in permutations(range(players), 2):
            yield word, one, other
    for many in range(players + 1):
        for told in combinations(range(players), many):
            yield "switch", told
    yield ("more",)


def why_not(players, results, command):
    """The word of point 121 for a command that is not possible, or None."""
    if command[0] == "more":
        return "many" if players == 5 else None
    if command[0] == "know" and is_between(results, *command[1:]):
        return "known"
    if command[0] == "know":
        return None if all_completions(players, results + (command[1:],)) else "no"
    if command[0] == "forget":
        return None if is_between(results, *command[1:]) else "unknown"
    return None


def behind(players, results, command):
    """The number of the players and the results behind a command that is possible."""
    if command[0] == "more":
        return players + 1, results
    if command[0] == "know":
        return players, results + (command[1:],)
    if command[0] == "forget":
        return players, tuple(result for result in results if set(result) != set(command[1:]))
    chosen = set(command[1])
    return players, tuple(result[::-1] if len(chosen & set(result)) == 1 else result for result in results)


def is_command(players, value):
    """Whether the value is a command for so many players, of the same kinds throughout."""
    return repr(value) in written_commands(players)


@lru_cache(maxsize=None)
def written_commands(players):
    return {repr(command) for command in all_commands(players)}


def are_right_records(players, value):
    """Point 124, for any value."""
    if type(value) is not tuple or len(value) > MOST_COMMANDS:
        return False
    results = ()
    for record in value:
        if type(record) is not tuple or len(record) != 2 or not is_command(players, record[0]):
            return False
        if why_not(players, results, record[0]) in ("known", "unknown", "many"):
            return False
        players, results = behind(players, results, record[0])
        if not is_completion(players, results, record[1]):
            return False
    return True
