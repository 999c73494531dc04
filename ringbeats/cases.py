"""Evidence about two players of whom only some results are known, with trees of cases."""

from itertools import permutations

from ringbeats.errors import BadValue
from ringbeats.kinds import are_whole, is_ascending, is_whole
from ringbeats.known import check_known, completions, is_between, is_completion


def pair_evidence(players, known, one, other):
    """Return evidence about the two players: both results are possible, one is forced, or there is no completion."""
    _check_pair(players, known, one, other)
    found = completions(players, known)
    if not found:
        return "none", _tree(players, known)
    won = [tournament for tournament in found if other in tournament[one]]
    lost = [tournament for tournament in found if one in tournament[other]]
    if won and lost:
        return "open", won[0], lost[0]
    if is_between(known, one, other):
        return "forced", found[0], None
    return "forced", found[0], _tree(players, (*known, _contrary(found[0], one, other)))


def accepts_pair(players, known, one, other, value):
    """Return True if the value is evidence about the two players, of any of the words, otherwise False."""
    _check_pair(players, known, one, other)
    if not isinstance(value, tuple):
        return False
    if len(value) == 2 and value[0] == "none":
        return _is_tree(players, known, value[1])
    if len(value) != 3:
        return False
    word, first, second = value
    if word == "open":
        has_won = is_completion(first, players, (*known, (one, other)))
        return has_won and is_completion(second, players, (*known, (other, one)))
    if word != "forced" or not is_completion(first, players, known):
        return False
    if is_between(known, one, other):
        return second is None
    return _is_tree(players, (*known, _contrary(first, one, other)), second)


def _check_pair(players, known, one, other):
    check_known(players, known)
    if not is_whole(one, 0, players - 1):
        raise BadValue("one")
    if not is_whole(other, one + 1, players - 1):
        raise BadValue("other")


def _contrary(tournament, one, other):
    """Return the result between the two players that is not that of the tournament."""
    return (other, one) if other in tournament[one] else (one, other)


def _tree(players, results):
    """Return a tree of cases for results, in any sequence, that have no completion."""
    for four in permutations(range(players), 4):
        if _is_known_obstruction(players, results, four):
            return "no", four
    one, other = _first_open(players, results)
    first = _tree(players, (*results, (one, other)))
    return "by", one, other, first, _tree(players, (*results, (other, one)))


def _first_open(players, results):
    """Return the first two players between whom there is no result."""
    pairs = [(one, other) for one in range(players) for other in range(one + 1, players)]
    return [pair for pair in pairs if not is_between(results, pair[0], pair[1])][0]


def _is_tree(players, results, value):
    """Return True if the value is a tree of cases for the results, in any sequence, otherwise False."""
    if not isinstance(value, tuple):
        return False
    if len(value) == 2 and value[0] == "no":
        return _is_known_obstruction(players, results, value[1])
    if len(value) != 5 or value[0] != "by":
        return False
    _, one, other, first, second = value
    # Each case has one result more, so the looking ends where all are known, however deep the value goes on.
    if not is_ascending((one, other), players) or is_between(results, one, other):
        return False
    if not _is_tree(players, (*results, (one, other)), first):
        return False
    return _is_tree(players, (*results, (other, one)), second)


def _is_known_obstruction(players, results, value):
    """Return True if the value is an obstruction whose six results are all among the results, otherwise False."""
    if not are_whole(value, 4, 0, players - 1):
        return False
    player, x, y, z = value
    if x > y or x > z or not all([result in results for result in ((x, y), (y, z), (z, x))]):
        return False
    over = all([(player, other) in results for other in (x, y, z)])
    return over or all([(other, player) in results for other in (x, y, z)])
