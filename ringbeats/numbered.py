"""The circular tournaments of a number of players, each by its index among them."""

from ringbeats.errors import BadValue, NotPossible, TooLarge
from ringbeats.kinds import MOST_PLAYERS, is_whole
from ringbeats.signed import stands_for, told_order


def count_circular(many):
    """Return the number of the circular tournaments of so many players."""
    if not is_whole(many, 1, MOST_PLAYERS):
        raise BadValue("many")
    # Each place of a told order behind player 0 has one of those who are left, as itself or as its opposite.
    number = 1
    for left in range(1, many):
        number = number * 2 * left
    return number


def nth_circular(many, index):
    """Return the circular tournament of so many players with the index."""
    if not is_whole(index, 0, count_circular(many) - 1):
        raise BadValue("index")
    order, players, left = [(0, True)], list(range(1, many)), index
    while players:
        choice, left = divmod(left, _count_behind(players))
        order.append((players.pop(choice // 2), choice % 2 == 0))
    return stands_for(tuple(order))


def index_of_circular(tournament):
    """Return the index of the tournament among the circular ones, or None if it is not circular."""
    order = told_order(tournament)
    if order is None:
        return None
    index, players = 0, list(range(1, len(order)))
    for player, itself in order[1:]:
        choice = 2 * players.index(player) + (0 if itself else 1)
        index += choice * _count_behind(players)
        players.remove(player)
    return index


def next_circular(tournament):
    """Return the circular tournament with the next index, or None if this is the last one."""
    index = index_of_circular(tournament)
    if index is None:
        raise NotPossible("circular")
    if index + 1 == count_circular(len(tournament)):
        return None
    return nth_circular(len(tournament), index + 1)


def with_one_more(tournament):
    """Return the list of the circular tournaments that it becomes with one player more, by their indexes."""
    order = told_order(tournament)
    if order is None:
        raise NotPossible("circular")
    new = len(tournament)
    if new == MOST_PLAYERS:
        raise TooLarge("players")
    # The new player is the greatest one, so the further behind it is put in, the earlier the order comes.
    longer = [(*order[:at], (new, itself), *order[at:]) for at in range(new, 0, -1) for itself in (True, False)]
    return [stands_for(told) for told in longer]


def _count_behind(players):
    """Return how many told orders go on from each choice at the place where one of these players comes next."""
    # The others who are left come behind it as they would behind player 0.
    return count_circular(len(players))
