"""Ways to give cards to players, counted without going through them, and fractions."""

from math import gcd

from finesse.numbering import choices


class Ways:
    """Numbers of ways to give cards out of piles; what has been found is kept.

    A pile is a pair of the mask of the players who may get its cards and of the
    number of its cards. Cards that nobody gets stay where they are.
    """

    def __init__(self):
        self._found = {}

    def count(self, piles, counts):
        """Return in how many ways each player can get as many cards as `counts` says."""
        needed_piles = _joined(piles, counts)
        key = (needed_piles, tuple(counts))
        if key not in self._found:
            self._found[key] = self._count_splits(needed_piles, counts)
        return self._found[key]

    def splits(self, piles, counts, player):
        """Return how the cards of a player can be spread over the piles.

        Each split is a pair of the list with the number of cards out of each pile and
        of the number of ways in which the other players can then get their cards.
        """
        limits = [number if mask >> player & 1 else 0 for mask, number in piles]
        later_counts = [0 if other == player else count for other, count in enumerate(counts)]
        found = []
        for taken in _sums(limits, counts[player]):
            rest = [(mask, number - some) for (mask, number), some in zip(piles, taken)]
            ways = self.count(rest, later_counts)
            if ways > 0:
                found.append((taken, ways))
        return found

    def _count_splits(self, piles, counts):
        if not any(counts):
            return 1
        total = 0
        for taken, ways in self.splits(piles, counts, _most_bound(piles, counts)):
            for (_, number), some in zip(piles, taken):
                ways *= choices(number, some)
            total += ways
        return total


def fraction(part, whole):
    """Return a part of a whole as a numerator and a denominator in lowest terms."""
    common = gcd(part, whole)
    return part // common, whole // common


def _joined(piles, counts):
    """Return the ascending tuple of the piles; joined if the same waiting players share them."""
    waiting = 0
    for player, count in enumerate(counts):
        if count > 0:
            waiting |= 1 << player
    sizes = {}
    for mask, number in piles:
        takers = mask & waiting
        if takers and number:
            sizes[takers] = sizes.get(takers, 0) + number
    return tuple(sorted(sizes.items()))


def _most_bound(piles, counts):
    """Return the player, among those who wait for cards, who may use the fewest piles."""
    # Behind the others, those who may use many piles find them joined.
    best = (len(piles) + 1, -1)
    for player, count in enumerate(counts):
        if count > 0:
            usable = [mask for mask, _ in piles if mask >> player & 1]
            best = min(best, (len(usable), player))
    return best[1]


def _sums(limits, total):
    """Return all lists of numbers, none above its limit, with a sum."""
    lists = [[]]
    for limit in limits:
        lists = [begun + [some] for begun in lists for some in range(min(limit, total - sum(begun)) + 1)]
    return [numbers for numbers in lists if sum(numbers) == total]
