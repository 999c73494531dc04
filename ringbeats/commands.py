"""The commands of notebooks, and what they do to the results that are known."""

from ringbeats.kinds import is_ascending
from ringbeats.known import MOST_ASKED_ABOUT, is_between, is_result

MOST_COMMANDS = 20


def is_command(value, players):
    """Return True if the value is a command for so many players, possible or not, otherwise False."""
    if not isinstance(value, tuple) or len(value) == 0:
        return False
    word, told = value[0], value[1:]
    if word in ("know", "forget"):
        return is_result(told, players)
    if word == "switch":
        return len(told) == 1 and is_ascending(told[0], players)
    return word == "more" and len(told) == 0


def hindrance(players, results, command):
    """Return the word that tells, without a search, why the command is not possible, or None."""
    word = command[0]
    if word == "more":
        return "many" if players == MOST_ASKED_ABOUT else None
    if word == "switch":
        return None
    has_result = is_between(results, command[1], command[2])
    if word == "know":
        return "known" if has_result else None
    return None if has_result else "unknown"


def carried_out(players, results, command):
    """Return the pair of the number of the players and the results that there are behind the command."""
    word, told = command[0], command[1:]
    if word == "know":
        return players, (*results, told)
    if word == "forget":
        return players, tuple([result for result in results if not is_between((told,), result[0], result[1])])
    if word == "switch":
        return players, tuple([_switched(result, told[0]) for result in results])
    return players + 1, results


def _switched(result, players):
    """Return the result, turned if exactly one of its players is among these."""
    one, other = result
    return (one, other) if (one in players) == (other in players) else (other, one)
