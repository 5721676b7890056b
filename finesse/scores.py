"""The scores of contracts, and the comparing of tables."""

from finesse.auction import book_of, levels_of
from finesse.deals import side_of


def needed(size, level):
    """Return how many tricks a bid promises."""
    return book_of(size) + level


def score(suits, size, contract, tricks, vulnerable):
    """Return the score of a contract for the declarer's side."""
    if contract is None:
        return 0
    level, strain, doubled, declarer = contract
    in_danger = vulnerable[side_of(declarer)]
    beyond = tricks - needed(size, level)
    if beyond < 0:
        return -_loss(-beyond, doubled, in_danger)
    total = _trick_points(suits, level, strain) << doubled
    total += _bonus(total, in_danger) + 50 * doubled
    if level == levels_of(size) and size >= 2:
        total += 750 if in_danger else 500
    if doubled == 0:
        return total + beyond * _worth(suits, strain)
    return total + beyond * 100 * doubled * (2 if in_danger else 1)


def score_for(suits, size, contract, tricks, vulnerable, side):
    """Return the score of a contract from the view of a side."""
    points = score(suits, size, contract, tricks, vulnerable)
    if contract is None or side_of(contract[3]) == side:
        return points
    return -points


def compared(scores):
    """Return, for each table, twice the number of lower scores plus that of equal ones."""
    first_places = {}
    counts = {}
    for place, points in enumerate(sorted(scores)):
        first_places.setdefault(points, place)
        counts[points] = counts.get(points, 0) + 1
    return [2 * first_places[points] + counts[points] - 1 for points in scores]


def _worth(suits, strain):
    """Return the worth of a trick in a strain."""
    return 20 if strain < suits // 2 else 30


def _trick_points(suits, level, strain):
    """Return the trick points of a contract that is not doubled."""
    extra = 10 if strain == suits else 0
    return level * _worth(suits, strain) + extra


def _bonus(trick_points, in_danger):
    """Return what a made contract gets for the height of its trick points."""
    if trick_points < 100:
        return 50
    return 500 if in_danger else 300


def _loss(missing, doubled, in_danger):
    """Return what a side loses by missing tricks."""
    if doubled == 0:
        return missing * (100 if in_danger else 50)
    if in_danger:
        return doubled * (200 + 300 * (missing - 1))
    first_three = 200 * min(missing, 3) - 100
    return doubled * (first_three + 300 * max(missing - 3, 0))
