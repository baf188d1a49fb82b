"""Which routes of a list meet, and which can be laid together."""

from signalhouse.errors import TooMany

MOST_ROUTES = 14


def clashes(routes):
    """All pairs of numbers of routes that meet, the lesser one ahead, rising."""
    numbers = list(range(len(routes)))
    return [(low, high) for low in numbers for high in numbers[low + 1:] if _meet(routes[low], routes[high])]


def greatest_sets(routes):
    """All greatest sets of routes of which no two meet, as rising lists of numbers, rising."""
    if len(routes) > MOST_ROUTES:
        raise TooMany(f"greatest sets are told of at most {MOST_ROUTES} routes")
    rivals = [[] for _ in routes]
    for low, high in clashes(routes):
        rivals[low].append(high)
        rivals[high].append(low)
    return sorted(_sets_on(rivals, 0, []))


def _meet(route, other):
    """Whether two routes have a section in common."""
    return any(section in other.sections for section in route.sections)


def _sets_on(rivals, number, chosen):
    """All greatest sets that hold, of the numbers below this one, just those that are chosen."""
    if number == len(rivals):
        return [chosen] if _is_greatest(rivals, chosen) else []
    sets = []
    if not _has_rival(rivals, number, chosen):
        sets += _sets_on(rivals, number + 1, chosen + [number])
    # A number may be left out only for a rival that is in the set or may yet come into it.
    if any(rival in chosen or rival > number for rival in rivals[number]):
        sets += _sets_on(rivals, number + 1, chosen)
    return sets


def _is_greatest(rivals, chosen):
    """Whether each number that isn't chosen has a rival that is."""
    left_out = [number for number in range(len(rivals)) if number not in chosen]
    return all([_has_rival(rivals, number, chosen) for number in left_out])


def _has_rival(rivals, number, chosen):
    """Whether a route meets one of those that are chosen."""
    return any(rival in chosen for rival in rivals[number])
