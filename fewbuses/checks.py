"""What places, rides and trips are, and the refusals of what is none."""

from fewbuses.errors import NoNumber, NoPlace, NoRide, NoTrip

LETTERS = "abcdefghijklmnopqrstuvwxyz"
LONGEST_NAME = 12
LAST_MINUTE = 99999
LONGEST_RIDE = 9999


def is_place(thing):
    """Tell whether something is a place."""
    if not isinstance(thing, str):
        return False
    if not 1 <= len(thing) <= LONGEST_NAME:
        return False
    return all([sign in LETTERS for sign in thing])


def is_whole(thing, least, most):
    """Tell whether something is a whole number between two, both included."""
    # Python takes True and False for integers; here they are none.
    if isinstance(thing, bool) or not isinstance(thing, int):
        return False
    return least <= thing <= most


def is_ride(thing):
    """Tell whether something is a ride."""
    if not isinstance(thing, tuple) or len(thing) != 3:
        return False
    start, goal, minutes = thing
    if not is_place(start) or not is_place(goal):
        return False
    return start != goal and is_whole(minutes, 1, LONGEST_RIDE)


def is_trip(thing):
    """Tell whether something is a trip."""
    if not isinstance(thing, tuple) or len(thing) != 4:
        return False
    start, begin, goal, end = thing
    if not is_place(start) or not is_place(goal):
        return False
    if not is_whole(begin, 0, LAST_MINUTE) or not is_whole(end, 0, LAST_MINUTE):
        return False
    return begin < end


def is_number(thing, trips):
    """Tell whether something is the number of one of the trips."""
    return is_whole(thing, 0, len(trips) - 1)


def look_at_lists(rides, trips):
    """Refuse with NoRide or NoTrip what is none among the rides and trips."""
    # The messages tell numbers only: to write out whatever was handed in may fail.
    for at, ride in enumerate(rides):
        if not is_ride(ride):
            raise NoRide(f"no ride stands at {at} among the rides")
    for at, trip in enumerate(trips):
        if not is_trip(trip):
            raise NoTrip(f"no trip stands at {at} among the trips")


def look_at_place(thing):
    """Refuse with NoPlace what is no place."""
    if not is_place(thing):
        raise NoPlace("a place is a name of 1 to 12 letters a to z")


def look_at_number(thing, trips):
    """Refuse with NoNumber what is the number of none of the trips."""
    if not is_number(thing, trips):
        raise NoNumber("a trip's number is its place in the list of the trips, from 0")
