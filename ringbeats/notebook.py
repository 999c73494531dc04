"""Notebooks of known results, with a journal of what was done to them."""

from ringbeats.commands import MOST_COMMANDS, carried_out, hindrance, is_command
from ringbeats.errors import BadValue, NotPossible, TooLarge
from ringbeats.known import best_question, check_number, completions, forced


class Notebook:
    """The results that are known of some players, in the sequence in which they came."""

    def __init__(self, players):
        check_number(players)
        self._journal = []
        # The players and results at the beginning, and behind each command of the journal.
        self._pages = [(players, ())]

    def act(self, command):
        """Carry out the command, and return the number of the completions behind it."""
        players, results = self._pages[-1]
        if not is_command(command, players):
            raise BadValue("command")
        why = hindrance(players, results, command)
        if why is not None:
            raise NotPossible(why)
        page = carried_out(players, results, command)
        many = len(completions(page[0], page[1]))
        if many == 0:
            raise NotPossible("no")
        if len(self._journal) == MOST_COMMANDS:
            raise TooLarge("commands")
        self._journal.append(command)
        self._pages.append(page)
        return many

    def undo(self):
        """Undo the last command and return it, or None if the journal is empty."""
        if not self._journal:
            return None
        self._pages.pop()
        return self._journal.pop()

    def players(self):
        """Return the number of the players."""
        return self._pages[-1][0]

    def results(self):
        """Return the tuple of the known results, in their sequence."""
        return self._pages[-1][1]

    def count(self):
        """Return the number of the completions."""
        return len(completions(self.players(), self.results()))

    def forced(self):
        """Return the ascending tuple of the forced results."""
        return forced(self.players(), tuple(sorted(self.results())))

    def question(self):
        """Return the best question, or None if a result is forced between any two players."""
        return best_question(self.players(), tuple(sorted(self.results())))

    def journal(self):
        """Return the tuple of the commands in the journal."""
        return tuple(self._journal)

    def records(self):
        """Return the tuple of the commands in the journal, each with the first completion behind it."""
        pages = self._pages[1:]
        return tuple([(command, _first_completion(page)) for command, page in zip(self._journal, pages)])

    def twin(self):
        """Return another notebook with the same first number of players and the same journal."""
        other = Notebook(self._pages[0][0])
        other._journal = list(self._journal)
        other._pages = list(self._pages)
        return other


def _first_completion(page):
    """Return the first completion of the results, and of so many players, that stand on the page."""
    players, results = page
    return completions(players, results)[0]
