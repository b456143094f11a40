"""The roads by which a bus may go without guests, and the quickest ways along them."""

from heapq import heappush, heappop

from fewbuses.checks import look_at_lists, look_at_place


def roads(rides, trips):
    """Tell all roads: the rides, and behind them those that trips go by."""
    look_at_lists(rides, trips)
    return laid_roads(rides, trips)


def spread(rides, trips, place):
    """Tell for each place that can be come to from a place the least minutes."""
    look_at_lists(rides, trips)
    look_at_place(place)
    found = explored(laid_roads(rides, trips), place)
    return {there: found[there][0] for there in found}


def way(rides, trips, one, other):
    """Tell the places along a quickest way from one place to another, or None."""
    look_at_lists(rides, trips)
    look_at_place(one)
    look_at_place(other)
    return traced(explored(laid_roads(rides, trips), one), one, other)


def laid_roads(rides, trips):
    """List all roads of rides and trips that were looked at."""
    laid = list(rides)
    for start, begin, goal, end in trips:
        if start != goal:
            laid.append((start, goal, end - begin))
    return laid


def leaving(laid):
    """Tell for each place that roads leave where to and in how many minutes."""
    out = {}
    for start, goal, minutes in laid:
        out.setdefault(start, []).append((goal, minutes))
    return out


def explored(laid, place):
    """Tell for each place that can be come to the least minutes and the last place before it.

    The place itself, which has none before it, is told as its own.
    """
    out = leaving(laid)
    found = {}
    waiting = [(0, place, place)]
    while waiting:
        minutes, here, before = heappop(waiting)
        # What comes out of the heap first is quickest: no road takes less than a minute.
        if here not in found:
            found[here] = (minutes, before)
            for goal, more in out.get(here, []):
                heappush(waiting, (minutes + more, goal, here))
    return found


def traced(found, one, other):
    """Tell the places from where was explored to another place, or None."""
    if other not in found:
        return None
    back = [other]
    while back[-1] != one:
        back.append(found[back[-1]][1])
    return back[::-1]
