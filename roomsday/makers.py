"""Stage 4: plans made by orders, the best of all orders, and cases called off."""

from roomsday.errors import TooMany
from roomsday.plans import by_names, share_somebody
from roomsday.worst import latest

MOST_IN_ORDERS = 6


def plan_by(cases, order):
    """Make a plan by an order: each case as early as those put already let it begin."""
    named = by_names(cases)
    rows = []
    for name in order:
        case = named[name]
        # Places rise, so of several rooms with the least start the least pair has the first.
        start, room = min([(free_from(named, rows, case, place), place) for place in case[4]])
        rows.append((start, name, room))
    return tuple(sorted(rows))


def best_plan(cases, many):
    """Tell (end, order, plan) of the order whose plan ends first at the latest within many."""
    if len(cases) > MOST_IN_ORDERS:
        raise TooMany("these are too many cases to try all orders")
    best = None
    for order in all_orders([case[0] for case in cases]):
        plan = plan_by(cases, order)
        end = last_end(cases, plan, many)
        # Orders rise, so one that is only as good does not go ahead of the first.
        if best is None or end < best[0]:
            best = (end, order, plan)
    return best


def called_off(cases, plan, many, minute):
    """Tell the fewest names without which all others end by the minute on all days within many."""
    names = sorted([name for start, name, room in plan])
    for size in range(len(names)):
        for group in all_groups(names, size):
            if last_end(cases, without(plan, group), many) <= minute:
                return group
    return tuple(names)


def free_from(named, rows, case, room):
    """Tell the earliest start of a case in a room behind the rows put already, by usual times."""
    ends = [
        start + named[name][1] for start, name, taken in rows
        if taken == room or share_somebody(named[name], case)
    ]
    return max([case[5]] + ends)


def last_end(cases, plan, many):
    """Tell the last end of the plan at the latest over all days within many, 0 of no cases."""
    return max([0] + [end for name, begin, end in latest(cases, plan, many)])


def all_orders(names):
    """List all orders of rising names, rising."""
    orders = [()]
    for length in range(len(names)):
        orders = [order + (name,) for order in orders for name in names if name not in order]
    return orders


def all_groups(names, size):
    """List all rising tuples of so many of rising names, rising."""
    groups = [()]
    for length in range(size):
        groups = [group + (name,) for group in groups for name in names if group[-1:] < (name,)]
    return groups


def without(plan, group):
    """Tell the plan without the cases of these names."""
    return tuple([row for row in plan if row[1] not in group])
