"""Which trips a bus can do one behind the other, and where it is meanwhile."""

from fewbuses.checks import look_at_lists, look_at_number
from fewbuses.errors import NotInTime
from fewbuses.roads import explored, laid_roads, traced


def can(rides, trips, one, other):
    """Tell whether a bus can do one trip and another one behind it."""
    look_at_lists(rides, trips)
    look_at_number(one, trips)
    look_at_number(other, trips)
    found = explored(laid_roads(rides, trips), trips[one][2])
    return in_time(found, trips[one], trips[other])


def day(rides, trips, row):
    """List the stops of a bus that does the trips of a row in turn."""
    look_at_lists(rides, trips)
    for number in row:
        look_at_number(number, trips)
    laid = laid_roads(rides, trips)
    done = [trips[number] for number in row]
    stops = []
    for at, (start, begin, goal, end) in enumerate(done):
        if at > 0:
            stops.extend(between(laid, done[at - 1], done[at]))
        stops.append((start, begin))
        stops.append((goal, end))
    return stops


def between(laid, trip, later):
    """List the stops of a bus between two trips, or refuse with NotInTime."""
    found = explored(laid, trip[2])
    if not in_time(found, trip, later):
        raise NotInTime("a trip of the row can't be done behind the one ahead of it")
    along = traced(found, trip[2], later[0])
    return [(place, trip[3] + found[place][0]) for place in along[1:]]


def in_time(found, trip, later):
    """Tell, by what was found from a trip's end, whether another can be done behind it."""
    goal = later[0]
    return goal in found and trip[3] + found[goal][0] <= later[1]


def followers(rides, trips):
    """List for each trip the numbers of those that can be done behind it."""
    laid = laid_roads(rides, trips)
    return [following(laid, trips, trip) for trip in trips]


def following(laid, trips, trip):
    """List the numbers of the trips that can be done behind one of them."""
    found = explored(laid, trip[2])
    return [at for at, later in enumerate(trips) if in_time(found, trip, later)]
