"""Stage 6: houses, cases and plans as texts, and what is read of them."""

from roomsday.cases import are_cases, is_house
from roomsday.errors import NoText
from roomsday.plans import is_plan

FIGURES = "0123456789"
MOST_FIGURES = 4
NOBODY = "-"


def house_text(house):
    """Write a house."""
    rooms, people = house
    return " ".join([f"{rooms}:"] + list(people))


def cases_text(cases):
    """Write cases, a line each."""
    return "\n".join([case_line(case) for case in cases])


def plan_text(plan):
    """Write a plan, a line for each of its cases."""
    return "\n".join([f"{start} {name} {room}" for start, name, room in plan])


def read_house(text):
    """Read a house."""
    house = house_in(text) if isinstance(text, str) else None
    if not is_house(house):
        raise NoText(None)
    return house


def read_cases(house, text):
    """Read cases of the house."""
    cases = ()
    for number, line in enumerate(lines_in(text), start=1):
        cases = cases + (case_in(line),)
        if not are_cases(house, cases):
            raise NoText(number)
    return cases


def read_plan(cases, text):
    """Read a plan of the cases."""
    plan = ()
    for number, line in enumerate(lines_in(text), start=1):
        plan = plan + (row_in(line),)
        if not is_plan(cases, plan):
            raise NoText(number)
    return plan


def case_line(case):
    """Write one case."""
    name, usual, longest, team, places, first = case
    members = ",".join(team) if team else NOBODY
    rooms = ",".join([str(room) for room in places])
    return f"{name} {usual} {longest} {members} {rooms} {first}"


def lines_in(text):
    """List the lines of a text: none where it has no signs."""
    if not isinstance(text, str):
        raise NoText(None)
    return text.split("\n") if text else []


# What is read below may be anything or have None in it, where it is not so written: whoever asks
# looks whether it is a house, a case or a row of a plan.


def house_in(text):
    """Read what may be a house."""
    rooms, *people = text.split(" ")
    if not rooms.endswith(":"):
        return None
    return number_in(rooms[:-1]), tuple(people)


def case_in(line):
    """Read what may be a case."""
    words = line.split(" ")
    if len(words) != 6:
        return None
    name, usual, longest, team, places, first = words
    return (
        name, number_in(usual), number_in(longest), team_in(team), places_in(places),
        number_in(first)
    )


def row_in(line):
    """Read what may be a row of a plan."""
    words = line.split(" ")
    if len(words) != 3:
        return None
    start, name, room = words
    return number_in(start), name, number_in(room)


def team_in(word):
    """Read what may be a team."""
    return () if word == NOBODY else tuple(word.split(","))


def places_in(word):
    """Read what may be places."""
    return tuple([number_in(part) for part in word.split(",")])


def number_in(word):
    """Read a number: None where it is not written by one to four figures without a nought ahead."""
    if not 1 <= len(word) <= MOST_FIGURES or not all([sign in FIGURES for sign in word]):
        return None
    if word[0] == "0" and word != "0":
        return None
    return int(word)
