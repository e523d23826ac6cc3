"""A day that goes on, told slowly and by the document's words, to compare the program with."""

import copy
import itertools

from roomsday.errors import Crowded, NoCase, NoCases, NoMinutes, NotNow, TooMany
from tests.samples import PEOPLE


class SlowDay:
    """Keeps a dict for each case and lets every minute go by for itself."""

    def __init__(self, cases, plan, many):
        named = {case[0]: case for case in cases}
        self.many, self.now = many, 0
        self.runs = [
            {"case": named[name], "start": start, "room": room, "begin": None, "end": None}
            for start, name, room in plan]
        self.begin_all()

    def leaned_on(self, run):
        ahead = self.runs[:[run is other for other in self.runs].index(True)]
        return [other for other in ahead if other["room"] == run["room"]
                or set(other["case"][3]) & set(run["case"][3])]

    def begin_all(self):
        ready = [
            run for run in self.runs if run["begin"] is None and run["start"] <= self.now
            and all(other["end"] is not None for other in self.leaned_on(run))]
        for run in ready:
            run["begin"] = self.now

    def took(self, run):
        if run["begin"] is None:
            return 0
        return (self.now if run["end"] is None else run["end"]) - run["begin"]

    def over(self):
        return sum(self.took(run) > run["case"][1] for run in self.runs)

    def named(self, name):
        for run in self.runs:
            if run["case"][0] == name:
                return run
        raise NoCase(name)

    def end(self, name):
        run = self.named(name)
        if run["begin"] in (None, self.now) or run["end"] is not None:
            raise NotNow(name)
        run["end"] = self.now
        self.begin_all()

    def pass_by(self, minutes):
        if minutes not in range(1, 1001):
            raise NoMinutes("")
        for _ in range(minutes):
            self.now += 1
            for run in self.runs:
                if run["begin"] is not None and run["end"] is None and self.took(run) == run["case"][2]:
                    run["end"] = self.now
            self.begin_all()

    def off(self, name):
        run = self.named(name)
        if run["begin"] is not None:
            raise NotNow(name)
        self.runs.remove(run)
        self.begin_all()

    def with_urgent(self, case, room):
        """Another day with the case put in, not begun."""
        other = copy.deepcopy(self)
        new = {"case": case, "start": max(self.now, case[5]), "room": room, "begin": None, "end": None}
        other.runs = (
            [run for run in other.runs if run["begin"] is not None] + [new]
            + [run for run in other.runs if run["begin"] is None])
        return other

    def urgent(self, case, within):
        if case[0] in [run["case"][0] for run in self.runs]:
            raise NoCases("")
        if len(self.runs) == 8:
            raise TooMany("")
        if within not in range(0, 1001):
            raise NoMinutes("")
        best = None
        before = self.latest_begins()
        for room in case[4]:
            if before is None:
                break
            then = self.with_urgent(case, room).latest_begins()
            if then[case[0]] - max(self.now, case[5]) <= within:
                worse = sum(then[name] > before[name] for name in before)
                if best is None or worse < best[0]:
                    best = worse, room
        if best is None:
            raise Crowded("")
        self.runs = self.with_urgent(case, best[1]).runs
        self.begin_all()
        return best[1]

    def latest_begins(self):
        told = self.bounds()
        return None if told is None else {row[0]: row[2] for row in told}

    def minutes_left(self, run, few):
        """All times that a case may take in the end; with few those in between are left out."""
        name, usual, longest, *_ = run["case"]
        if run["end"] is not None:
            return [self.took(run)]
        least = max(1, self.took(run))
        return sorted({least, max(least, usual), longest}) if few else range(least, longest + 1)

    def days_left(self, few=False):
        """Every day that goes on from what stands, as begins and ends by names."""
        for day in itertools.product(*[self.minutes_left(run, few) for run in self.runs]):
            if sum(took > run["case"][1] for took, run in zip(day, self.runs)) <= self.many:
                yield self.gone_on(day)

    def gone_on(self, day):
        leaning = [[self.runs.index(other) for other in self.leaned_on(run)] for run in self.runs]
        begin = {at: run["begin"] for at, run in enumerate(self.runs) if run["begin"] is not None}
        end = {at: run["end"] for at, run in enumerate(self.runs) if run["end"] is not None}
        now = self.now
        while len(end) < len(self.runs):
            for at in begin:
                if at not in end and begin[at] + day[at] == now:
                    end[at] = now
            for at, run in enumerate(self.runs):
                if at not in begin and run["start"] <= now and all(one in end for one in leaning[at]):
                    begin[at] = now
            now += 1
        return {run["case"][0]: (begin[at], end[at]) for at, run in enumerate(self.runs)}

    def bounds(self, few=False):
        if self.over() > self.many:
            return None
        days = list(self.days_left(few))
        told = []
        for run in self.runs:
            if run["end"] is None:
                name = run["case"][0]
                begins = [day[name][0] for day in days]
                ends = [day[name][1] for day in days]
                told.append((name, min(begins), max(begins), min(ends), max(ends)))
        return told

    def states(self):
        words = []
        for run in self.runs:
            if run["begin"] is None:
                word = "waits"
            elif run["end"] is not None:
                word = "done"
            else:
                word = "over" if self.took(run) > run["case"][1] else "goes"
            words.append((run["case"][0], word, run["begin"], run["end"]))
        return words

    def plan(self):
        return [(run["start"], run["case"][0], run["room"]) for run in self.runs]

    def cases(self):
        return tuple(sorted([run["case"] for run in self.runs]))


def random_house(rooms):
    return rooms, PEOPLE


def random_case(chance, name, longest, rooms):
    """A case for what can't wait, of the same house."""
    usual = chance.randint(1, longest)
    team = tuple(sorted(chance.sample(PEOPLE[:5], chance.randint(0, 2))))
    places = tuple(sorted(chance.sample(range(rooms), chance.randint(1, rooms))))
    return name, usual, chance.randint(usual, longest), team, places, chance.choice((0, 0, 5, 12))


def random_deed(chance, day, longest, rooms):
    """A deed for a lot, often one that the day can do, sometimes one that it refuses."""
    names = [row[0] for row in day.states()] + ["zz"]
    going = [row[0] for row in day.states() if row[1] in ("goes", "over")]
    word = chance.choice(("end", "end", "pass", "pass", "pass", "urgent", "off"))
    if word == "pass":
        return word, chance.randint(1, 4)
    if word == "urgent":
        name = chance.choice(("u", "v", "w", names[0]))
        return word, random_case(chance, name, longest, rooms), chance.randint(0, 6)
    if word == "end" and going and chance.random() < 0.8:
        return word, chance.choice(going)
    return word, chance.choice(names)


def do(day, deed):
    """Do one deed of a lot by the day's own method, for either kind of day."""
    word, handed = deed[0], deed[1]
    if word == "end":
        return day.end(handed)
    if word == "pass":
        return day.pass_by(handed)
    if word == "off":
        return day.off(handed)
    if isinstance(day, SlowDay):
        return day.urgent(handed, deed[2])
    return day.urgent(handed, within=deed[2])
