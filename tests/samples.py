"""Houses, cases and plans for the tests, and slow answers of their own to compare with."""

import itertools
import random

PEOPLE = ("ann", "bo", "cy", "dee", "eve", "fay", "gus", "hal")
HOUSE = (2, ("ann", "bo", "cy", "dee"))
CASES = (
    ("eye", 20, 20, ("cy",), (0, 1), 0),
    ("hip", 60, 90, ("ann", "bo"), (0, 1), 30),
    ("jaw", 40, 100, (), (1,), 0),
    ("knee", 50, 70, ("bo", "cy"), (0,), 0),
    ("toe", 10, 15, ("dee",), (0,), 0),
)
# hip leans on eye by the room; jaw on none; knee on eye (cy) and on hip (bo and the room).
PLAN = ((10, "eye", 0), (30, "hip", 0), (40, "jaw", 1), (90, "knee", 0))

# Things of any form, none of them a house, cases of HOUSE, a plan of CASES, a paper of PLAN.
ODD_THINGS = (
    None, True, False, 0, 1, -1, 7, 10 ** 39, -(10 ** 39), "", "a", "hip", "~" * 10000, "\n",
    [], [[]], ((),), [()], (None,), (True,), (1,), ("hip",), (1, 2), ("a", "b"), [1, ()],
    (1, 2, 3), (1, 2, 3, 4, 5, 6), ("a", 1, 1, (), (0,)), (0,) * 400, [0] * 400, ((1, "a", 0),),
)


def deep(form, depth):
    thing = form()
    for _ in range(depth - 1):
        thing = form([thing])
    return thing


def odd_things():
    return list(ODD_THINGS) + [deep(list, 20), deep(tuple, 20)]


def with_part(row, at, part):
    """The tuple row with another part in one place."""
    return row[:at] + (part,) + row[at + 1:]


def random_cases(chance, many, longest=30, rooms=2):
    """As many cases of a house with 8 people, with times short enough to meet each other."""
    cases = []
    for name in sorted(chance.sample("abcdefghijklm", many)):
        usual = chance.randint(1, longest)
        team = tuple(sorted(chance.sample(PEOPLE[:5], chance.randint(0, 2))))
        places = tuple(sorted(chance.sample(range(rooms), chance.randint(1, rooms))))
        top = usual if chance.random() < 0.2 else chance.randint(usual, longest + 5)
        cases.append((name, usual, top, team, places, chance.randint(0, 20)))
    return tuple(cases)


def random_plan(chance, cases, left_out=0):
    """A plan of the cases, some left out, with starts that press upon each other."""
    rows = []
    for case in chance.sample(cases, len(cases) - left_out):
        rows.append((case[5] + chance.randint(0, 60), case[0], chance.choice(case[4])))
    return tuple(sorted(rows))


def samples(seed, count, fewest=0, most=8, **told):
    """Pairs of cases and a plan of them."""
    chance = random.Random(seed)
    for _ in range(count):
        many = chance.randint(fewest, most)
        cases = random_cases(chance, many, **told)
        left_out = chance.randint(0, 2) if many > 4 and chance.random() < 0.3 else 0
        yield cases, random_plan(chance, cases, left_out)


def case_named(cases, name):
    return [case for case in cases if case[0] == name][0]


def slow_leans(cases, plan):
    """For each case of the plan those ahead of it that have its room, or somebody of its team."""
    teams = [set(case_named(cases, row[1])[3]) for row in plan]
    return [
        [other for other in range(at) if plan[other][2] == plan[at][2] or teams[other] & teams[at]]
        for at in range(len(plan))
    ]


def slow_day(cases, plan, minutes):
    """A day's begins and ends, found by letting minutes go by one after the other."""
    leaning = slow_leans(cases, plan)
    begin, end, now = {}, {}, 0
    while len(end) < len(plan):
        for at in begin:
            if at not in end and now == begin[at] + minutes[at]:
                end[at] = now
        for at, row in enumerate(plan):
            if at not in begin and now >= row[0] and all(other in end for other in leaning[at]):
                begin[at] = now
        now += 1
    return [(row[1], begin[at], end[at]) for at, row in enumerate(plan)]


def all_days(cases, plan, many):
    """Every day within many."""
    planned = [case_named(cases, row[1]) for row in plan]
    for day in itertools.product(*[range(1, case[2] + 1) for case in planned]):
        if sum(took > case[1] for took, case in zip(day, planned)) <= many:
            yield day


def full_days(cases, plan, many):
    """The days within many on which each case takes its usual or its longest time."""
    planned = [case_named(cases, row[1]) for row in plan]
    for over in itertools.product((False, True), repeat=len(plan)):
        if sum(over) <= many:
            yield tuple(case[2] if long else case[1] for case, long in zip(planned, over))


def latest_of(told_days, plan):
    """The latest begins and ends over days that were told."""
    days = list(told_days)
    return [
        (row[1], max(day[at][1] for day in days), max(day[at][2] for day in days))
        for at, row in enumerate(plan)
    ]
