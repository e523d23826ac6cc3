"""Stage 7: a desk, which is told rows and answers with texts."""

from roomsday.days import Day
from roomsday.errors import NoRow
from roomsday.texts import number_in, places_in, read_cases, read_house, read_plan, team_in

# For each first word the kinds of those behind it: n is a number, w any word.
ROWS = {
    "end": "w", "pass": "n", "off": "w", "back": "", "urgent": "wnnwwnn",
    "minute": "", "over": "", "states": "", "bounds": "", "plan": "",
}


class Desk:
    """A day of a house, cases and a plan that are written, which goes on by rows."""

    def __init__(self, house, cases, plan, *, many=1):
        house_read = read_house(house)
        cases_read = read_cases(house_read, cases)
        plan_read = read_plan(cases_read, plan)
        self.day = Day(house_read, cases_read, plan_read, many=many)

    def say(self, row):
        """Do or tell what the row says, and answer."""
        word, handed = read_row(row)
        if word == "minute":
            return str(self.day.minute())
        if word == "over":
            return str(self.day.over())
        if word == "states":
            return listed(self.day.states())
        if word == "plan":
            return listed(self.day.plan())
        if word == "bounds":
            return bounds_text(self.day.bounds())
        if word == "urgent":
            return str(self.put_in(handed))
        self.do(word, handed)
        return "done"

    def put_in(self, handed):
        """Put in the case of a row, and tell its room."""
        name, usual, longest, team, places, first, within = handed
        case = (name, usual, longest, team_in(team), places_in(places), first)
        return self.day.urgent(case, within=within)

    def do(self, word, handed):
        """Do a deed that tells nothing."""
        if word == "end":
            self.day.end(handed[0])
        elif word == "pass":
            self.day.pass_by(handed[0])
        elif word == "off":
            self.day.off(handed[0])
        else:
            self.day.back()


def read_row(row):
    """Tell a row's first word and the list of what stands behind it, numbers read."""
    if not isinstance(row, str) or "\n" in row:
        raise NoRow("this is no row")
    word, *rest = row.split(" ")
    kinds = ROWS.get(word)
    if kinds is None or len(kinds) != len(rest) or "" in rest:
        raise NoRow("there is no such row")
    handed = [number_in(part) if kind == "n" else part for kind, part in zip(kinds, rest)]
    if None in handed:
        raise NoRow("a number is not so written")
    return word, handed


def bounds_text(bounds):
    """Write bounds, or that there are none."""
    return "beyond" if bounds is None else listed(bounds)


def listed(rows):
    """Write rows, a blank between them."""
    if len(rows) == 0:
        return "none"
    return " ".join([":".join([shown(part) for part in row]) for row in rows])


def shown(part):
    """Write one part of a row."""
    return "-" if part is None else str(part)
