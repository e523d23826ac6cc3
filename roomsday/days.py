"""Stage 5: a day that goes on, minute by minute.

What stands is a pair (minute, runs). A run is a tuple (case, start, room, begin, end), begin and end
None where they have not come; the runs are in the day's order. What stands is never changed but made
anew: so a deed that is refused halfway leaves all as it was, and a step back is the pair kept before.
"""

from roomsday.cases import MOST_CASES, are_cases, is_case, is_house
from roomsday.errors import (
    Crowded, NoCases, NoCount, NoHouse, NoLot, NoMinutes, NoPlan, NothingLeft, NotNow, TooMany)
from roomsday.kinds import copied, is_number
from roomsday.plans import in_order, is_plan, leans, told_day
from roomsday.worst import latest, place_in

MOST_OVER = 8
MOST_MINUTES = 1000
MOST_DEEDS = 20
# How many things stand behind each deed's word.
HANDED = {"end": 1, "pass": 1, "urgent": 2, "off": 1}


class Day:
    """A day of a house, cases and a plan, on which at most many cases are to run over."""

    def __init__(self, house, cases, plan, *, many=1):
        if not is_house(house):
            raise NoHouse("this is no house")
        if not are_cases(house, cases):
            raise NoCases("these are no cases of the house")
        if not is_plan(cases, plan):
            raise NoPlan("this is no plan of the cases")
        if not is_number(many, 0, MOST_OVER):
            raise NoCount("this is no number of cases that may run over")
        self.house = copied(house)
        self.many = many
        self.stand = first_stand(copied(cases), copied(plan))
        self.past = []
        self.busy = False

    def end(self, name):
        """End the case of this name, which is under way, in this minute."""
        self.do_all([("end", name)])

    def pass_by(self, minutes=1):
        """Let so many minutes go by."""
        self.do_all([("pass", minutes)])

    def urgent(self, case, *, within=30):
        """Put in a case that can't wait longer than within minutes, and tell its room."""
        return self.do_all([("urgent", case, within)])[0]

    def off(self, name):
        """Call off the case of this name, which waits."""
        self.do_all([("off", name)])

    def lot(self, deeds):
        """Do all deeds or none of them, and list what each tells."""
        if not is_lot(deeds):
            raise NoLot("this is no lot of deeds")
        return self.do_all(deeds)

    def back(self):
        """Take back what was done last."""
        if len(self.past) == 0:
            raise NothingLeft("there is nothing left to take back")
        self.stand = self.past.pop()

    def minute(self):
        """Tell the minute at which the day stands."""
        return self.stand[0]

    def over(self):
        """Tell how many cases have run over so far, done ones too."""
        return count_over(self.stand)

    def plan(self):
        """List (start, name, room) of each case, in the day's order."""
        return plan_in(self.stand[1])

    def cases(self):
        """Tell the cases of the day's order, rising by names."""
        return tuple(sorted(cases_in(self.stand[1])))

    def states(self):
        """List (name, state, begin, end) of each case, in the day's order."""
        return told_states(self.stand)

    def bounds(self):
        """List (name, begin, latest begin, end, latest end) of each case not done, or tell None."""
        return told_bounds(self.stand, self.many)

    def __len__(self):
        return len([run for run in self.stand[1] if not is_done(run)])

    def __eq__(self, other):
        # All that is told comes of these; what was done to get there does not count.
        return (
            isinstance(other, Day) and self.house == other.house
            and self.many == other.many and self.stand == other.stand
        )

    def do_all(self, deeds):
        """Do the deeds, one step for taking back, and list what each tells."""
        self.busy = True
        try:
            stand = self.stand
            told = []
            for deed in deeds:
                stand, answer = after(self.house, self.many, stand, deed)
                told.append(answer)
            self.past.append(self.stand)
            self.stand = stand
        finally:
            self.busy = False
        return told


def is_lot(thing):
    """Tell of anything whether it is a lot, by its words and counts."""
    if not isinstance(thing, list) or not 1 <= len(thing) <= MOST_DEEDS:
        return False
    return all([is_deed(deed) for deed in thing])


def is_deed(thing):
    """Tell of anything whether it is a deed's word with as many things behind it as it takes."""
    if not isinstance(thing, tuple) or len(thing) == 0 or not isinstance(thing[0], str):
        return False
    return HANDED.get(thing[0]) == len(thing) - 1


def after(house, many, stand, deed):
    """Tell what stands after a deed, and what the deed tells."""
    word = deed[0]
    if word == "end":
        return after_end(stand, deed[1]), None
    if word == "pass":
        return after_minutes(stand, deed[1]), None
    if word == "off":
        return after_off(stand, deed[1]), None
    return after_urgent(house, many, stand, deed[1], deed[2])


def after_end(stand, name):
    """Tell what stands after the case of this name was told to end."""
    minute, runs = stand
    at = place_in(plan_in(runs), name)
    if not goes(runs[at]) or runs[at][3] == minute:
        raise NotNow(name)
    return with_begun(minute, runs[:at] + (ended(runs[at], minute),) + runs[at + 1:])


def after_minutes(stand, minutes):
    """Tell what stands so many minutes later."""
    if not is_number(minutes, 1, MOST_MINUTES):
        raise NoMinutes("this is no number of minutes that can go by")
    minute, runs = stand
    last = minute + minutes
    while minute < last:
        minute = next_change(minute, runs, last)
        minute, runs = with_begun(minute, with_ended(minute, runs))
    return minute, runs


def after_off(stand, name):
    """Tell what stands after the case of this name was called off."""
    minute, runs = stand
    at = place_in(plan_in(runs), name)
    if not waits(runs[at]):
        raise NotNow(name)
    return with_begun(minute, runs[:at] + runs[at + 1:])


def after_urgent(house, many, stand, case, within):
    """Tell what stands after a case that can't wait was put in, and its room."""
    minute, runs = stand
    if not is_case(house, case) or case[0] in [known[0] for known in cases_in(runs)]:
        raise NoCases("this is no case of the house, or its name is taken")
    if len(runs) >= MOST_CASES:
        raise TooMany("the day has as many cases as it can have")
    if not is_number(within, 0, MOST_MINUTES):
        raise NoMinutes("this is no number of minutes that a case can wait")
    fitting = rooms_in_time(stand, many, case, within)
    if len(fitting) == 0:
        raise Crowded("there is no room in which the case begins early enough")
    room = min(fitting)[1]
    return with_begun(minute, put_in(stand, copied(case), room)), room


def rooms_in_time(stand, many, case, within):
    """List (others made later, room) of each room with which the case begins within so many minutes."""
    before = latest_begins_told(stand, many)
    if before is None:
        return []
    start = first_start(stand, case)
    fitting = []
    for room in case[4]:
        then = latest_begins_told((stand[0], put_in(stand, case, room)), many)
        if then[case[0]] - start <= within:
            fitting.append((len([name for name in before if then[name] > before[name]]), room))
    return fitting


def latest_begins_told(stand, many):
    """Tell for each case not done, under its name, its latest begin by the bounds, or None."""
    bounds = told_bounds(stand, many)
    if bounds is None:
        return None
    return {name: late_begin for name, begin, late_begin, end, late_end in bounds}


def first_start(stand, case):
    """Tell the start of a case that is put in now."""
    return max(stand[0], case[5])


def put_in(stand, case, room):
    """Tell the runs with one more case: behind all that have begun, ahead of all that wait."""
    runs = stand[1]
    # Whatever began does not lean on what still waits, so the others lean on each other as before.
    begun = tuple([run for run in runs if not waits(run)])
    waiting = tuple([run for run in runs if waits(run)])
    return begun + ((case, first_start(stand, case), room, None, None),) + waiting


def first_stand(cases, plan):
    """Tell what stands at minute 0."""
    planned = in_order(cases, plan)
    return with_begun(0, tuple([
        (case, start, room, None, None) for case, (start, name, room) in zip(planned, plan)
    ]))


def with_begun(minute, runs):
    """Tell what stands at the minute when all that can begin has begun."""
    begun = []
    for run, places in zip(runs, leans(cases_in(runs), plan_in(runs))):
        case, start, room, begin, end = run
        if begin is None and start <= minute and all([is_done(runs[place]) for place in places]):
            begun.append((case, start, room, minute, end))
        else:
            begun.append(run)
    return minute, tuple(begun)


def with_ended(minute, runs):
    """Tell the runs when all that has taken its longest time by the minute has ended."""
    return tuple([
        ended(run, minute) if goes(run) and longest_end(run) == minute else run for run in runs
    ])


def next_change(minute, runs, last):
    """Tell the next minute, the last one at most, at which a case may begin or end by itself."""
    changes = [run[1] for run in runs if waits(run)] + [longest_end(run) for run in runs if goes(run)]
    return min([last] + [change for change in changes if change > minute])


def waits(run):
    """Tell whether the case has not begun."""
    return run[3] is None


def is_done(run):
    """Tell whether the case has ended."""
    return run[4] is not None


def goes(run):
    """Tell whether the case is under way."""
    return not waits(run) and not is_done(run)


def ended(run, minute):
    """Tell the run of a case that ends at the minute."""
    return run[:4] + (minute,)


def longest_end(run):
    """Tell when a case that has begun has taken its longest time."""
    return run[3] + run[0][2]


def taken(minute, run):
    """Tell how many minutes a case has taken so far, 0 where it waits."""
    case, start, room, begin, end = run
    if begin is None:
        return 0
    return (minute if end is None else end) - begin


def has_run_over(minute, run):
    """Tell whether a case has taken more than its usual time so far."""
    return taken(minute, run) > run[0][1]


def count_over(stand):
    """Tell how many cases have run over so far."""
    minute, runs = stand
    return len([run for run in runs if has_run_over(minute, run)])


def cases_in(runs):
    """List the cases of the runs, in the day's order."""
    return [run[0] for run in runs]


def plan_in(runs):
    """List (start, name, room) of the runs, in the day's order."""
    return [(start, case[0], room) for case, start, room, begin, end in runs]


def told_states(stand):
    """List (name, state, begin, end) of each case that stands."""
    minute, runs = stand
    return [(run[0][0], state_of(minute, run), run[3], run[4]) for run in runs]


def state_of(minute, run):
    """Tell the word for how a case stands."""
    if waits(run):
        return "waits"
    if is_done(run):
        return "done"
    return "over" if has_run_over(minute, run) else "goes"


def told_bounds(stand, many):
    """List the earliest and latest times of each case not done, None beyond many."""
    minute, runs = stand
    left = many - count_over(stand)
    if left < 0:
        return None
    # What is known is told as a plan of its own, of which each begun case starts when it began.
    known = [as_known(minute, run) for run in runs]
    begins = [(run[1] if waits(run) else run[3], run[0][0], run[2]) for run in runs]
    least = tuple([max(1, taken(minute, run)) for run in runs])
    earliest = told_day(known, begins, least)
    return [
        (name, begin, late_begin, end, late_end)
        for run, (name, begin, end), (same, late_begin, late_end)
        in zip(runs, earliest, latest(known, begins, left)) if not is_done(run)
    ]


def as_known(minute, run):
    """Tell the case with the times that it can still take without being counted once more."""
    name, usual, longest, team, places, first = run[0]
    if is_done(run):
        usual = longest = taken(minute, run)
    elif has_run_over(minute, run):
        usual = longest
    return name, usual, longest, team, places, first
