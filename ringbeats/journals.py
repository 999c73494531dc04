"""Notebooks replayed from a journal, and the judge of their records."""

from ringbeats.commands import MOST_COMMANDS, carried_out, hindrance, is_command
from ringbeats.errors import BadValue
from ringbeats.known import check_number, is_completion
from ringbeats.notebook import Notebook


def replayed(players, journal):
    """Return a notebook that has carried out the commands of the journal, one after another."""
    check_number(players)
    if not isinstance(journal, tuple) or len(journal) > MOST_COMMANDS:
        raise BadValue("journal")
    if not all([isinstance(command, tuple) for command in journal]):
        raise BadValue("journal")
    notebook = Notebook(players)
    for command in journal:
        notebook.act(command)
    return notebook


def are_right(players, records):
    """Return True if the records are right for so many players, otherwise False."""
    check_number(players)
    if not isinstance(records, tuple) or len(records) > MOST_COMMANDS:
        return False
    page = (players, ())
    for told in records:
        page = _behind(page, told)
        if page is None:
            return False
    return True


def _behind(page, value):
    """Return the players and results that there are behind the record, or None if it does not hold."""
    players, results = page
    if not isinstance(value, tuple) or len(value) != 2:
        return None
    command, tournament = value
    if not is_command(command, players) or hindrance(players, results, command) is not None:
        return None
    new_players, new_results = carried_out(players, results, command)
    return (new_players, new_results) if is_completion(tournament, new_players, new_results) else None
