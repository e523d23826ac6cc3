"""Stage 2: plans of cases, and what comes of a day."""

from roomsday.kinds import is_number, is_rising, is_tuple, is_whole

LATEST_START = 2000


def is_plan(cases, thing):
    """Tell of anything whether it is a plan of the cases."""
    # No case is there twice, so a longer tuple is no plan, however long it is.
    if not is_tuple(thing, 0, len(cases)):
        return False
    if not all([is_row(cases, row) for row in thing]):
        return False
    names = [row[1] for row in thing]
    return is_rising(thing) and len(set(names)) == len(names)


def is_row(cases, thing):
    """Tell of anything whether it may stand in a plan of the cases."""
    if not is_tuple(thing, 3, 3):
        return False
    start, name, room = thing
    # Lists can't be looked up and True equals 1, so the kinds are asked for first.
    if not isinstance(name, str) or not is_whole(room):
        return False
    case = by_names(cases).get(name)
    if case is None:
        return False
    return room in case[4] and is_number(start, 0, LATEST_START) and case[5] <= start


def by_names(cases):
    """Tell the cases, each under its name."""
    return {case[0]: case for case in cases}


def in_order(cases, plan):
    """List the cases of a plan, in its order."""
    named = by_names(cases)
    return [named[name] for start, name, room in plan]


def leans(cases, plan):
    """List for each case of the plan the places, from 0 on, of those on which it leans."""
    planned = in_order(cases, plan)
    rooms = [room for start, name, room in plan]
    told = []
    for at, case in enumerate(planned):
        told.append(tuple([
            ahead for ahead in range(at)
            if rooms[ahead] == rooms[at] or share_somebody(planned[ahead], case)
        ]))
    return told


def share_somebody(one, other):
    """Tell whether somebody is in the teams of both cases."""
    return any([person in other[3] for person in one[3]])


def told_day(cases, plan, minutes):
    """List (name, begin, end) of each case of the plan on the day of these minutes."""
    told = []
    leaning = leans(cases, plan)
    for (start, name, room), places, taken in zip(plan, leaning, minutes):
        begin = max([start] + [told[place][2] for place in places])
        told.append((name, begin, begin + taken))
    return told


def is_smooth(cases, plan):
    """Tell whether each case begins at its start on the day of all usual times."""
    usual = tuple([case[1] for case in in_order(cases, plan)])
    begins = [begin for name, begin, end in told_day(cases, plan, usual)]
    return begins == [start for start, name, room in plan]
