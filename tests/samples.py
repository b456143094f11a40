"""What the tests share: good and wrong inputs, and a plain reckoning to compare with."""

import random

from fewbuses.plans import holds, plan
from fewbuses.roads import roads, spread, way
from fewbuses.turns import can, day

RIDES = [("a", "b", 10), ("b", "c", 5), ("a", "c", 20), ("c", "d", 7)]
TRIPS = [("d", 100, "e", 130), ("e", 0, "a", 40), ("b", 10, "b", 60)]

WRONG_PLACES = [
    "", "abcdefghijklm", "a" * 100, "A", "aB", "a b", " a", "a ", "a1", "1", "a_", "a-b", "a.",
    "a\n", "\n", "a\x00", "`", "{", "\u00e4", "\u0430", "\u00b5", "\uff41", "a\u0301",
    "\ud800", None, True, False, 0, 1, 1.5, b"a", ["a"], ("a",), (), [], {"a": 1}, {}, {"a"}, object(), str,
]

WRONG_WHOLES = [
    True, False, None, 5.0, 5.5, "5", "", b"5", [5], (5,), {}, [], float("nan"), float("inf"),
    1j, object(), int, 10 ** 5000, -10 ** 5000,
]

NO_TUPLES = [None, True, False, 0, 3, 1.5, "", "abc", "abcd", b"abc", {}, {"a": 1}, object(), (), [], ("a",)]

WRONG_RIDES = (
    NO_TUPLES
    + [("a", "b"), ("a", "b", 5, 6), ("a", "b", 5, None), ["a", "b", 5], {"a", "b", 5}]
    + [("a", 10, "b", 20), (("a", "b", 5),), (5, "a", "b"), ("a", 5, "b")]
    + [("a", "a", 5), ("abc", "abc", 1)]
    + [(wrong, "b", 5) for wrong in WRONG_PLACES]
    + [("a", wrong, 5) for wrong in WRONG_PLACES]
    + [(wrong, wrong, 5) for wrong in WRONG_PLACES]
    + [("a", "b", wrong) for wrong in WRONG_WHOLES]
    + [("a", "b", wrong) for wrong in (0, -1, -5, 10000, 10001, 99999)]
)

WRONG_TRIPS = (
    NO_TUPLES
    + [("a", 10, "b"), ("a", 10, "b", 20, 30), ("a", 10, "b", 20, None), ["a", 10, "b", 20]]
    + [("a", "b", 5), ("a", "b", 10, 20), (10, "a", 20, "b"), (("a", 10, "b", 20),)]
    + [("a", 10, "b", 10), ("a", 10, "b", 9), ("a", 99999, "b", 0), ("a", 0, "b", 0), ("a", 10, "a", 10)]
    + [("a", 20, "a", 10), ("a", 99999, "b", 99999)]
    + [(wrong, 10, "b", 20) for wrong in WRONG_PLACES]
    + [("a", 10, wrong, 20) for wrong in WRONG_PLACES]
    + [(wrong, 10, wrong, 20) for wrong in WRONG_PLACES]
    + [("a", wrong, "b", 20) for wrong in WRONG_WHOLES]
    + [("a", 0, "b", wrong) for wrong in WRONG_WHOLES]
    + [("a", wrong, "b", 20) for wrong in (-1, -5)]
    + [("a", 0, "b", wrong) for wrong in (100000, 100001)]
    + [("a", 100000, "b", 100001), ("a", -2, "b", -1)]
)

# Each asks one function, with what is good behind whatever rides and trips it is given.
ASKERS = {
    "roads": lambda rides, trips: roads(rides, trips),
    "spread": lambda rides, trips: spread(rides, trips, "a"),
    "way": lambda rides, trips: way(rides, trips, "a", "b"),
    "can": lambda rides, trips: can(rides, trips, 0, 0),
    "day": lambda rides, trips: day(rides, trips, []),
    "day of one": lambda rides, trips: day(rides, trips, [0]),
    "plan": lambda rides, trips: plan(rides, trips),
    "holds": lambda rides, trips: holds(rides, trips, [[0]], [0]),
}

# Those that ask for a trip's number, of which there is none where there are no trips.
NUMBERED = ["can", "day of one"]


def refusal(ask, *told):
    """The class of the error that a call raises, or None."""
    try:
        ask(*told)
    except Exception as error:
        return error.__class__
    return None


def wrong_numbers(many):
    """What is the number of none of so many trips."""
    near = [-1, -2, -many - 1, many, many + 1, 99999]
    return WRONG_WHOLES + near + [[0], (0,), [], (), {0: 0}, {0}, "0", "a", b"0", 0.0, 1.0, -0.0]


def name(number):
    """A place of its own for each number from 0 to 675."""
    return chr(97 + number // 26) + chr(97 + number % 26)


def seeded(seed, many_rides, many_trips, many_places):
    """Rides, trips and places that are the same for the same seed."""
    dice = random.Random(seed)
    places = [name(number) for number in range(many_places)]
    rides = []
    for _ in range(many_rides):
        one, other = dice.sample(places, 2)
        rides.append((one, other, dice.randint(1, 40)))
    trips = []
    for _ in range(many_trips):
        begin = dice.randint(0, 1000)
        trips.append((dice.choice(places), begin, dice.choice(places), begin + dice.randint(1, 40)))
    return rides, trips, places


def quickest_roads(rides, trips):
    """The least minutes of one road between two places, worked out from the document's words."""
    quickest = {}
    told = [(ride[0], ride[1], ride[2]) for ride in rides]
    told += [(trip[0], trip[2], trip[3] - trip[1]) for trip in trips if trip[0] != trip[2]]
    for one, other, minutes in told:
        quickest[one, other] = min(minutes, quickest.get((one, other), minutes))
    return quickest


def reckoned(rides, trips, place):
    """The least minutes from a place, by taking each road again until nothing gets less."""
    least = {place: 0}
    while True:
        before = dict(least)
        for (one, other), minutes in quickest_roads(rides, trips).items():
            if one in least:
                least[other] = min(least.get(other, 10 ** 9), least[one] + minutes)
        if before == least:
            return least


def followers(rides, trips):
    """The pairs of numbers of which the second can be done behind the first, by a plain reckoning."""
    pairs = set()
    for one, (_, _, goal, end) in enumerate(trips):
        least = reckoned(rides, trips, goal)
        for other, (start, begin, _, _) in enumerate(trips):
            if start in least and end + least[start] <= begin:
                pairs.add((one, other))
    return pairs


def fewest_rows(pairs, many):
    """The fewest rows by which so many trips can be done, found by trying all ways to deal them.

    Each trip is dealt to a row of its own or to any spot of each row that is there. A row in which a
    next one can't be done is left at once: with more trips between it can't be done either.
    """
    return dealt_best(pairs, many, 0, [])


def dealt_best(pairs, many, number, rows):
    """The fewest rows when the trips from a number on are dealt, too."""
    if number == many:
        return len(rows)
    fewest = dealt_best(pairs, many, number + 1, rows + [[number]])
    for at, row in enumerate(rows):
        for spot in range(len(row) + 1):
            longer = row[:spot] + [number] + row[spot:]
            if all(pair in pairs for pair in zip(longer, longer[1:])):
                fewest = min(fewest, dealt_best(pairs, many, number + 1, rows[:at] + [longer] + rows[at + 1:]))
    return fewest
