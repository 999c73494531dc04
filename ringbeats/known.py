"""What follows if only some results are known: completions, forced results, conflicts and questions."""

from ringbeats.errors import BadValue, NotPossible
from ringbeats.kinds import is_whole
from ringbeats.numbered import with_one_more
from ringbeats.tournaments import is_tournament, obstruction

# Where only some results are known there are fewer players than elsewhere.
MOST_ASKED_ABOUT = 5


def count_completions(players, known):
    """Return the number of the completions."""
    check_known(players, known)
    return len(completions(players, known))


def forced(players, known):
    """Return the ascending tuple of the forced results, or None if there is no completion."""
    check_known(players, known)
    found = completions(players, known)
    if not found:
        return None
    # What all completions have, the first one has, too, and its results come in their order.
    results = [(one, other) for one in range(players) for other in found[0][one]]
    return tuple([result for result in results if _count_with(found, result) == len(found)])


def first_conflict(players, known):
    """Return the least index up to which the results have no completion, or None if all have one."""
    check_known(players, known)
    # With a further result there are just those completions left that have it.
    left = completions(players, ())
    for index in range(len(known)):
        left = [tournament for tournament in left if _has(tournament, (known[index],))]
        if not left:
            return index
    return None


def best_question(players, known):
    """Return the best question, or None if a result is forced between any two players."""
    check_known(players, known)
    found = completions(players, known)
    if not found:
        raise NotPossible("none")
    best, fewest = None, len(found)
    for one in range(players):
        for other in range(one + 1, players):
            won = _count_with(found, (one, other))
            # If a result is forced, all completions are left with the one answer: so this is no question.
            if max(won, len(found) - won) < fewest:
                best, fewest = (one, other), max(won, len(found) - won)
    return best


def check_number(players):
    """Raise BadValue if this is not a number of players of whom only some results are known."""
    if not is_whole(players, 1, MOST_ASKED_ABOUT):
        raise BadValue("players")


def check_known(players, known):
    """Raise BadValue if the players are no such number, or the known results are not known results of so many."""
    check_number(players)
    if not _are_known(known, players):
        raise BadValue("known")


def is_result(value, players):
    """Return True if the value is a result between two of so many players, otherwise False."""
    if not isinstance(value, tuple) or len(value) != 2:
        return False
    one, other = value
    return is_whole(one, 0, players - 1) and is_whole(other, 0, players - 1) and one != other


def is_between(results, one, other):
    """Return True if a result between the two players is among the results."""
    return (one, other) in results or (other, one) in results


def completions(players, results):
    """Return the ascending list of the completions of the results, which may be in any sequence."""
    found = [((),)]
    for last in range(1, players):
        # What is circular stays so without its last player: so each completion grows from one of the results before.
        told = [result for result in results if max(result) <= last]
        grown = [longer for tournament in found for longer in with_one_more(tournament)]
        found = [tournament for tournament in grown if _has(tournament, told)]
    return sorted(found)


def is_completion(value, players, results):
    """Return True if the value is a completion of the results, which may be in any sequence, otherwise False."""
    if not is_tournament(value) or len(value) != players:
        return False
    return _has(value, results) and obstruction(value) is None


def _are_known(value, players):
    if not isinstance(value, tuple) or not all([is_result(result, players) for result in value]):
        return False
    for at in range(1, len(value)):
        if not value[at - 1] < value[at]:
            return False
    return not any([(other, one) in value for one, other in value])


def _has(tournament, results):
    """Return True if the tournament has all the results."""
    return all([other in tournament[one] for one, other in results])


def _count_with(tournaments, result):
    """Return how many of the tournaments have the result."""
    return len([tournament for tournament in tournaments if _has(tournament, (result,))])
