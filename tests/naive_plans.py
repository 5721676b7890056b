"""Plans in plain words: whether one wins in a fit, all plans for a play, and the sets of fits that plans win in."""

from itertools import product

from finesse.views import view_of_play

from tests.naive_play import plain_after, plain_legal, plain_left, plain_turn
from tests.naive_views import plain_fits


def plain_positions(play):
    """The positions in all fits of the view of the player who has the turn, with the partner's hand open."""
    trump, _, leader, led = play.position()
    found = plain_fits(view_of_play(play, play.turn(), (play.turn() + 2) % 4))
    return [(trump, hands, leader, led) for hands in found]


def won(after, side):
    return int(not after[3] and after[2] % 2 == side)


def plain_wins(deck, side, position, missing, plan, seen=()):
    """Whether a plan wins in a fit, by point 13.2."""
    if missing <= 0:
        return True
    if not plain_left(position):
        return False
    cards = plain_legal(deck, position)
    if plain_turn(position) % 2 == side:
        if plan.get(seen) not in cards:
            return False
        cards = [plan[seen]]
    results = []
    for card in cards:
        after = plain_after(deck, position, card)
        results.append(plain_wins(deck, side, after, missing - won(after, side), plan, seen + (card,)))
    return all(results)


def after_each_card(deck, positions):
    """For each card that may come, the numbers of the fits in which it may and the positions after it."""
    found = {}
    for number, position in positions.items():
        for card in plain_legal(deck, position):
            found.setdefault(card, {})[number] = plain_after(deck, position, card)
    return found


def any_of(positions):
    return next(iter(positions.values()))


def all_plans(deck, side, positions, missing, seen=()):
    """All plans that tell what is needed and nothing else; `positions` is a dict from numbers of fits."""
    if missing <= 0 or not plain_left(any_of(positions)):
        return [{}]
    parts = []
    for card, later in after_each_card(deck, positions).items():
        plans = all_plans(deck, side, later, missing - won(any_of(later), side), seen + (card,))
        parts.append((card, plans))
    if plain_turn(any_of(positions)) % 2 == side:
        return [{seen: card, **plan} for card, plans in parts for plan in plans]
    found = []
    for choice in product(*[plans for _, plans in parts]):
        found.append({key: card for plan in choice for key, card in plan.items()})
    return found


def plain_sets(deck, side, positions, missing):
    """The greatest sets of fits in which some plan wins, by point 13.5."""
    everything = frozenset(positions)
    if missing <= 0:
        return [everything]
    if not plain_left(any_of(positions)):
        return [frozenset()]
    found = []
    combined = [everything]
    for later in after_each_card(deck, positions).values():
        sets = plain_sets(deck, side, later, missing - won(any_of(later), side))
        found += sets
        others = everything - frozenset(later)
        combined = greatest([begun & (some | others) for begun in combined for some in sets])
    return greatest(found) if plain_turn(any_of(positions)) % 2 == side else combined


def greatest(sets):
    kept = []
    for some in sorted(set(sets), key=len, reverse=True):
        if not any(some <= other for other in kept):
            kept.append(some)
    return kept
