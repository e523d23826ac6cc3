"""Stage 3: what comes of all the days on which at most so many cases run over."""

from roomsday.errors import NoCase
from roomsday.kinds import is_tuple, is_whole
from roomsday.plans import in_order, leans


def latest(cases, plan, many):
    """List (name, begin, end) of each case of the plan, the latest over all days within many."""
    planned = in_order(cases, plan)
    begins = latest_begins(cases, plan, many)
    most = most_over(many)
    return [
        (case[0], row[most], latest_end(case, row, most))
        for case, row in zip(planned, begins)
    ]


def worst_day(cases, plan, many, name):
    """Tell a day within many on which the case of this name ends as late as it can."""
    planned = in_order(cases, plan)
    begins = latest_begins(cases, plan, many)
    leaning = leans(cases, plan)
    day = [case[1] for case in planned]
    left = most_over(many)
    at = place_in(plan, name)
    # Back along what makes it so late: each case on that way runs over or not,
    # and begins at its start or at the end of one on which it leans.
    while at is not None:
        if begins[at][left] + planned[at][1] < latest_end(planned[at], begins[at], left):
            day[at] = planned[at][2]
            left -= 1
        if begins[at][left] == plan[at][0]:
            at = None
        else:
            at = last_to_end(planned, begins, leaning[at], left)
    return tuple(day)


def paper(cases, plan, many):
    """Tell the paper whose numbers are the latest begins."""
    return tuple([tuple(row) for row in latest_begins(cases, plan, many)])


def is_paper(cases, plan, many, thing):
    """Tell of anything whether it is a paper of the plan for counts from 0 to many."""
    if not is_tuple(thing, len(plan), len(plan)):
        return False
    if not all([are_numbers(row, most_over(many) + 1) for row in thing]):
        return False
    planned = in_order(cases, plan)
    leaning = leans(cases, plan)
    for at in range(len(plan)):
        if min(thing[at]) < plan[at][0]:
            return False
        if not all([waits_for(thing[at], planned[place], thing[place]) for place in leaning[at]]):
            return False
    return True


def beyond(cases, plan, many, hours):
    """List (name, minutes) of those in hours: how long each is needed beyond them at most."""
    ends = latest_ends_by_person(cases, plan, many)
    return [(name, max(0, ends.get(name, minute) - minute)) for name, minute in hours]


def most_over(many):
    """Tell the greatest count of cases that run over."""
    # No day is within less than 0; it is answered as of 0 rather than failing.
    return max(many, 0)


def latest_begins(cases, plan, many):
    """List for each case of the plan its latest begins, one for each count from 0 to many."""
    planned = in_order(cases, plan)
    begins = []
    for (start, name, room), places in zip(plan, leans(cases, plan)):
        row = []
        for count in range(most_over(many) + 1):
            ends = [latest_end(planned[place], begins[place], count) for place in places]
            row.append(max([start] + ends))
        begins.append(row)
    return begins


def latest_end(case, begins, count):
    """Tell the latest end of a case, by its latest begins, when at most count run over."""
    end = begins[count] + case[1]
    if count > 0:
        # The case itself is one of those that run over: one fewer is left ahead of it.
        end = max(end, begins[count - 1] + case[2])
    return end


def place_in(plan, name):
    """Tell the place of the case of this name in the plan."""
    for at, row in enumerate(plan):
        if row[1] == name:
            return at
    raise NoCase(name)


def last_to_end(planned, begins, places, count):
    """Tell which of these places has the latest end, of several the first."""
    ends = [latest_end(planned[place], begins[place], count) for place in places]
    return places[ends.index(max(ends))]


def are_numbers(thing, many):
    """Tell whether thing is a tuple of just so many whole numbers."""
    return is_tuple(thing, many, many) and all([is_whole(part) for part in thing])


def waits_for(row, case, ahead):
    """Tell whether a paper's row lets the case end on which it leans, by that one's row."""
    return all([latest_end(case, ahead, count) <= row[count] for count in range(len(row))])


def latest_ends_by_person(cases, plan, many):
    """Tell for each person in a team of the plan the latest end of all of their cases."""
    ends = {}
    for case, (name, begin, end) in zip(in_order(cases, plan), latest(cases, plan, many)):
        for person in case[3]:
            ends[person] = max(end, ends.get(person, end))
    return ends
