"""Stage 1: a house, and cases of a house."""

from roomsday.kinds import is_name, is_number, is_rising, is_tuple

MOST_ROOMS = 4
MOST_PEOPLE = 8
MOST_CASES = 8
MOST_IN_TEAM = 3
LONGEST_USUAL = 200
LONGEST_AT_ALL = 400
LATEST_FIRST = 600


def is_house(thing):
    """Tell of anything whether it is a house."""
    if not is_tuple(thing, 2, 2):
        return False
    rooms, people = thing
    return is_number(rooms, 1, MOST_ROOMS) and are_names(people, MOST_PEOPLE)


def are_cases(house, thing):
    """Tell of anything whether it is cases of the house."""
    if not is_tuple(thing, 0, MOST_CASES):
        return False
    if not all([is_case(house, case) for case in thing]):
        return False
    return is_rising([case[0] for case in thing])


def is_case(house, thing):
    """Tell of anything whether it is one case of the house."""
    if not is_tuple(thing, 6, 6):
        return False
    rooms, people = house
    name, usual, longest, team, places, first = thing
    if not is_name(name) or not is_number(first, 0, LATEST_FIRST):
        return False
    return are_times(usual, longest) and is_team(people, team) and are_places(rooms, places)


def are_times(usual, longest):
    """Tell whether these are the usual and the longest time of a case."""
    return is_number(usual, 1, LONGEST_USUAL) and is_number(longest, usual, LONGEST_AT_ALL)


def is_team(people, thing):
    """Tell whether thing is a team out of these people."""
    return are_names(thing, MOST_IN_TEAM) and all([name in people for name in thing])


def are_places(rooms, thing):
    """Tell whether thing is a rising tuple of at least one of so many rooms."""
    if not isinstance(thing, tuple) or len(thing) == 0:
        return False
    if not all([is_number(room, 0, rooms - 1) for room in thing]):
        return False
    return is_rising(thing)


def are_names(thing, most):
    """Tell whether thing is a rising tuple of at most so many names."""
    if not is_tuple(thing, 0, most):
        return False
    # Only names can be put in order with each other, so all are looked at first.
    return all([is_name(name) for name in thing]) and is_rising(thing)
