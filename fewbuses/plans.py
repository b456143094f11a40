"""Plans: all trips done by as few buses as can be, and the check of what is handed in for one."""

from fewbuses.checks import is_number, look_at_lists
from fewbuses.turns import followers


def plan(rides, trips):
    """Tell as few rows as can do all trips, and as many trips of which no bus does two."""
    look_at_lists(rides, trips)
    behind = followers(rides, trips)
    nexts, ahead = paired(behind)
    rows = [row_from(number, nexts) for number in range(len(trips)) if number not in ahead]
    return rows, standing_apart(behind, nexts, ahead)


def holds(rides, trips, rows, apart):
    """Tell whether rows and numbers apart are such as plan tells, in whatever order the rows are."""
    look_at_lists(rides, trips)
    if not are_rows(rows, trips) or not are_numbers(apart, trips):
        return False
    # That fewer rows can't do is not looked for: as many numbers apart as there are rows show it.
    if not each_once(rows, trips) or len(apart) != len(rows):
        return False
    behind = followers(rides, trips)
    return in_turn(rows, behind) and stand_apart(apart, behind)


def paired(behind):
    """Tell the next trip of each in its row, and the one ahead of each, with as many pairs as can be.

    Each pair saves a bus. Nothing is lost by pairing each trip with one next one only: what can be done
    behind that next one can be done behind the trip itself, too.
    """
    nexts = {}
    ahead = {}
    for number in range(len(behind)):
        found = meant_for(behind, ahead, [number])
        free = [other for other in found if other not in ahead]
        if free:
            pair_anew(nexts, ahead, found, free[0])
    return nexts, ahead


def meant_for(behind, ahead, wanting):
    """Tell for each trip that may be handed to one that wants a next one to which one it would go.

    At first those told want one. A trip that is some trip's next one already may be handed over, too:
    the one ahead of it then wants another for it.
    """
    found = {}
    waiting = list(wanting)
    while waiting:
        one = waiting.pop()
        for other in behind[one]:
            if other not in found:
                found[other] = one
                if other in ahead:
                    waiting.append(ahead[other])
    return found


def pair_anew(nexts, ahead, found, free):
    """Hand a trip with none ahead of it to the one it is meant for, then on what that one gives up."""
    other = free
    while other is not None:
        one = found[other]
        given_up = nexts.get(one)
        nexts[one] = other
        ahead[other] = one
        other = given_up


def row_from(number, nexts):
    """List a trip's number and those that come next to it, one behind the other."""
    row = [number]
    while row[-1] in nexts:
        row.append(nexts[row[-1]])
    return row


def standing_apart(behind, nexts, ahead):
    """List as many numbers as there are rows, of no two of which one can be done behind the other.

    By Koenig's theorem: what can be done behind a trip that wants a next one, as it has none or would
    hand it over, is found. So of those that want one and are not found themselves none can be done
    behind another; and each row has one of them, the last of its trips that is not found.
    """
    numbers = range(len(behind))
    found = meant_for(behind, ahead, [number for number in numbers if number not in nexts])
    wanting = [number for number in numbers if number not in nexts or nexts[number] in found]
    return [number for number in wanting if number not in found]


def are_rows(rows, trips):
    """Tell whether something is a list of lists of trips' numbers, none empty."""
    if not isinstance(rows, list):
        return False
    return all([are_numbers(row, trips) and len(row) > 0 for row in rows])


def are_numbers(thing, trips):
    """Tell whether something is a list of trips' numbers."""
    if not isinstance(thing, list):
        return False
    return all([is_number(number, trips) for number in thing])


def each_once(rows, trips):
    """Tell whether each trip stands in just one of the rows, once."""
    told = sorted([number for row in rows for number in row])
    return told == list(range(len(trips)))


def in_turn(rows, behind):
    """Tell whether each next trip in a row can be done behind the one ahead of it."""
    return all([other in behind[one] for row in rows for one, other in zip(row, row[1:])])


def stand_apart(apart, behind):
    """Tell whether numbers rise, and of no two of them one can be done behind the other."""
    if not all([one < other for one, other in zip(apart, apart[1:])]):
        return False
    return not any([other in behind[one] for one in apart for other in apart])
