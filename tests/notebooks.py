"""Notebooks for the tests: what they tell, what the document says that they tell, and journals to carry out."""

from random import Random

from plain_known import all_commands, all_completions, all_forced, behind, question, why_not
from ringbeats.notebook import Notebook

MOST_COMMANDS = 20
KNOW, TURN = ("know", 0, 1), ("switch", (1,))
TRIANGLE = (("know", 0, 1), ("know", 1, 2), ("know", 2, 0))
MORE = ("more",)
LONG = TRIANGLE + (TURN, ("forget", 1, 0), MORE, KNOW, ("know", 3, 0), ("know", 3, 1), ("switch", (0, 3)), MORE,
                   ("forget", 2, 1), ("switch", ()), ("know", 4, 2), ("know", 2, 3), ("forget", 4, 2), ("switch", (4,)),
                   ("know", 0, 4), ("switch", (0, 1, 2, 3, 4)), ("forget", 3, 0))


def filled(players, journal):
    """A notebook that has carried out the commands."""
    notebook = Notebook(players)
    for command in journal:
        notebook.act(command)
    return notebook


def page_behind(players, journal):
    """The number of the players and the results behind the commands, which are possible."""
    page = players, ()
    for command in journal:
        page = behind(*page, command)
    return page


def plain_records(players, journal):
    """Point 125."""
    pages = [page_behind(players, journal[:at + 1]) for at in range(len(journal))]
    return tuple((command, min(all_completions(*page))) for command, page in zip(journal, pages))


def told(notebook):
    """All that a notebook tells."""
    return (notebook.players(), notebook.results(), notebook.count(), notebook.forced(), notebook.question(),
            notebook.journal(), notebook.records())


def plain_told(players, journal):
    """All that a notebook with this journal tells, by the words of the document."""
    page = page_behind(players, journal)
    return (*page, len(all_completions(*page)), all_forced(*page), question(*page), tuple(journal),
            plain_records(players, journal))


def possible(page):
    """The commands that are possible there."""
    return [command for command in all_commands(page[0]) if why_not(*page, command) is None]


def some_journals(players, seeds, length):
    """Journals of commands that are possible, with more of those that tell a result."""
    for seed in range(seeds):
        random = Random(seed)
        journal, page = [], (players, ())
        for _ in range(length):
            commands = possible(page)
            telling = [command for command in commands if command[0] == "know"]
            rare = [command for command in commands if command[0] == "more" and random.random() < 0.3]
            others = [command for command in commands if command[0] in ("switch", "forget")]
            chosen = telling if telling and random.random() < 0.6 else rare or others
            journal.append(random.choice(chosen))
            page = behind(*page, journal[-1])
        yield tuple(journal)
