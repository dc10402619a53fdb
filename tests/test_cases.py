"""Long cases of calls of all twelve sorts, answered as a second box answers them that is built by the words alone."""

import random
import unittest

from tests.helper import CROSSING, LONG, ROW, STATION, read, read_bytes, run
from tests.test_promises import busy_plan
from tests.test_routes import random_plan, routes_by_the_words

MOST_CALLS = 400
MOST_WEIGHT = 1000000

# Texts that are no plan's, with the answer to them.
REFUSED_TEXTS = (
    (b"plain A", [-6, 0, 1]), (b"\n", [-6, 0, 1]), (b"plain A\npoint A\n", [-6, 1, 2]), (b"border A.0\n", [-6, 0, 3]),
    (b"plain A\njoin A.0 A.0\n", [-6, 1, 4]), (b"plain A\nsignal A.0\n", [-6, 1, 5]),
    (b"cross A\nborder A.3\n", [-6, 1, 6]), (b"A" * 1025, [-2]),
)


class SecondBox:
    """Each train is its way: for each section (section, end come in by, end headed for), the foremost first."""

    def __init__(self):
        self.read([])

    def read(self, lines):
        words = [line.split() for line in lines]
        names = [word[1] for word in words if word[0] in ("plain", "point", "cross")]
        ends = {kind: sorted((names.index(word[1][:-2]), int(word[1][-1])) for word in words if word[0] == kind)
                for kind in ("border", "signal")}
        joins = [[(names.index(end[:-2]), int(end[-1])) for end in word[1:]] for word in words if word[0] == "join"]
        found = routes_by_the_words(lines)
        if len(found) > 64:
            return [-9]
        self.kinds = [word[0] for word in words if word[0] in ("plain", "point", "cross")]
        self.borders, self.signals = ends["border"], ends["signal"]
        pairs = dict([(one, other) for one, other in joins] + [(other, one) for one, other in joins])
        self.routes = []
        for signal, way in found:
            came_by = [pairs[end] for end in [signal] + way[:-1]]
            self.routes.append((signal, [(came[0], came[1], end[1]) for came, end in zip(came_by, way)]))
        self.locks = {}
        self.points = {section: 1 for section, kind in enumerate(self.kinds) if kind == "point"}
        self.trains = {}
        return [len(self.kinds)]

    def inside(self):
        return {step[0]: number for number, train in self.trains.items() for step in train["way"]}

    def section(self, number):
        if number >= len(self.kinds):
            return [-4]
        if number in self.locks:
            return [1, self.locks[number]]
        return [2, self.inside()[number]] if number in self.inside() else [0]

    def shows(self, signal):
        return [n for n, (end, steps) in enumerate(self.routes)
                if end == signal and all(self.locks.get(step[0]) == n for step in steps)]

    def enter(self, train, border, length):
        if train > 7 or length not in (1, 2, 3):
            return [-1]
        if border >= len(self.borders):
            return [-4]
        if train in self.trains:
            return [-3]
        section, end = self.borders[border]
        if self.section(section) != [0]:
            return [-5]
        self.trains[train] = {"length": length, "way": [(section, end, 1 - end)], "ahead": []}
        return [0]

    def ask(self, route):
        if route >= len(self.routes):
            return [-4]
        steps = self.routes[route][1]
        for section, _, _ in steps:
            if self.section(section) != [0]:
                return [-5, section, self.section(section)[0]]
        for section, one, other in steps:
            self.locks[section] = route
            if section in self.points:
                self.points[section] = one + other
        return [0]

    def cancel(self, route):
        if route >= len(self.routes):
            return [-4]
        signal, steps = self.routes[route]
        if route not in self.shows(signal):
            return [-3]
        for section, _, _ in steps:
            del self.locks[section]
        return [0]

    def throw(self, section):
        if section not in self.points:
            return [-4]
        if self.section(section) != [0]:
            return [-5]
        self.points[section] = 3 - self.points[section]
        return [0]

    def go(self, number):
        if number not in self.trains:
            return [-4]
        train = self.trains[number]
        section, _, end = train["way"][0]
        if not train["ahead"]:
            if (section, end) in self.borders:
                del self.trains[number]
                return [0]
            if (section, end) not in self.signals:
                return [-3]
            shown = self.shows((section, end))
            if not shown:
                return [-2]
            train["ahead"] = self.routes[shown[0]][1]
        step, train["ahead"] = train["ahead"][0], train["ahead"][1:]
        del self.locks[step[0]]
        train["way"] = ([step] + train["way"])[:train["length"]]
        return [1, step[0]]

    def turn(self, number):
        if number not in self.trains:
            return [-4]
        train = self.trains[number]
        if train["ahead"] or self.kinds[train["way"][-1][0]] != "plain":
            return [-3]
        train["way"] = [(section, heads, came) for section, came, heads in train["way"][::-1]]
        return [0]

    def train(self, number):
        if number not in self.trains:
            return [-4]
        way = self.trains[number]["way"]
        return [len(way)] + [step[0] for step in way] + [way[0][2], len(self.trains[number]["ahead"])]

    def point(self, section):
        return [self.points.get(section, -4)]

    def signal(self, number):
        if number >= len(self.signals):
            return [-4]
        shown = self.shows(self.signals[number])
        return [1] + shown if shown else [0]

    def set(self):
        routes = sorted(set(self.locks.values()))
        return [len(routes)] + routes


SORTS = ("read", "enter", "ask", "cancel", "throw", "go", "turn", "train", "section", "point", "signal", "set")
OFTEN = {"enter": 2, "ask": 8, "cancel": 2, "go": 12, "turn": 2, "train": 2, "section": 2}


def some_sort(rng, box):
    sort = rng.choices(SORTS[1:], [OFTEN.get(sort, 1) for sort in SORTS[1:]])[0]
    # Without trains most calls would be refused, so that trains are let in first.
    return "enter" if not box.trains and sort in ("go", "turn", "train", "ask") and rng.random() < 0.8 else sort


def some_arguments(rng, box, sort):
    def up_to_one_above(count):
        return rng.choice([rng.randint(0, count)] * 30 + [4294967295])

    if sort == "set":
        return []
    if sort == "enter":
        return [up_to_one_above(8), up_to_one_above(len(box.borders)), rng.choice((0, 1, 2, 2, 3, 3, 3, 4))]
    if sort in ("throw", "section", "point"):
        return [rng.choice(sorted(box.points) + [up_to_one_above(len(box.kinds))])]
    if sort == "signal":
        return [up_to_one_above(len(box.signals))]
    if sort in ("ask", "cancel"):
        heads = [(way[0][0], way[0][2]) for way in [train["way"] for train in box.trains.values()]]
        wanted = [n for n, (signal, steps) in enumerate(box.routes) if signal in heads
                  and all(box.section(step[0]) == [0] for step in steps)]
        if sort == "cancel":
            wanted = sorted(set(box.locks.values()))
        return [rng.choice(wanted * 4 + [up_to_one_above(len(box.routes))])]
    return [rng.choice(sorted(box.trains) * 4 + [up_to_one_above(8)])]


class Case:
    """A case as it grows: its calls, and what the second box answers to them."""

    def __init__(self):
        self.box = SecondBox()
        self.calls = []
        self.expected = []
        self.numbers = 0

    def add(self, call, expected):
        # The length ahead of a text is not counted.
        self.numbers += len(call) - (call[0] == 0)
        self.calls.append(call)
        self.expected.append(expected)

    def has_room(self):
        """Whether one more call, be it a read of the longest text, keeps the case within its limits."""
        count = len(self.calls) + 1
        return count <= MOST_CALLS and count * (self.numbers + 1026 + 200) <= MOST_WEIGHT

    def read(self, lines):
        self.add(read(*lines), self.box.read(lines))


def some_case(rng, some_lines):
    case = Case()
    if rng.random() < 0.9:
        case.read(some_lines(rng))
    while case.has_room():
        if rng.random() < 0.004:
            text, answer = rng.choice(REFUSED_TEXTS)
            case.add(read_bytes(text), answer)
        elif rng.random() < 0.003:
            case.read(some_lines(rng))
        else:
            sort = some_sort(rng, case.box)
            arguments = some_arguments(rng, case.box, sort)
            case.add([SORTS.index(sort)] + arguments, getattr(case.box, sort)(*arguments))
    return case


class Cases(unittest.TestCase):
    def check(self, seed, count, some_lines):
        rng = random.Random(seed)
        seen = {}
        for _ in range(count):
            case = some_case(rng, some_lines)
            self.assertLessEqual(len(case.calls), MOST_CALLS)
            self.assertLessEqual(len(case.calls) * (case.numbers + 200), MOST_WEIGHT)
            told = run(*case.calls)
            self.assertEqual(len(told), len(case.expected))
            for place, (call, answer, expected) in enumerate(zip(case.calls, told, case.expected)):
                self.assertEqual(answer, expected, (place, call))
                kind = (SORTS[call[0]], answer[0])
                seen[kind] = seen.get(kind, 0) + 1
        return seen

    def assert_seen(self, seen, expected):
        """A row of cases in which an answer hardly ever came would tell nothing of it."""
        wanted = [(sort, first) for sort, firsts in expected.items() for first in firsts]
        self.assertEqual([kind for kind in wanted if seen.get(kind, 0) < 10], [])

    def test_cases_over_given_yards(self):
        seen = self.check(21, 100, lambda rng: rng.choice((STATION, LONG + ("signal E.0",), CROSSING, ROW)))
        self.assert_seen(seen, {
            "read": (-6, 5, 6, 7), "enter": (0, -1, -4, -3, -5), "ask": (0, -4, -5), "cancel": (0, -4, -3),
            "throw": (0, -4, -5), "go": (1, 0, -4, -2), "turn": (0, -4, -3), "train": (1, 2, 3, -4),
            "section": (0, 1, 2, -4), "point": (1, 2, -4), "signal": (0, 1, -4), "set": (0, 1, 2)})

    def test_cases_over_plans_on_which_trains_get_about(self):
        seen = self.check(22, 150, busy_plan)
        self.assert_seen(seen, {
            "enter": (0, -1, -4, -3, -5), "ask": (0, -4, -5), "cancel": (0, -4, -3), "throw": (0, -4, -5),
            "go": (1, 0, -4, -2, -3), "turn": (0, -4, -3), "train": (1, 2, 3, -4), "section": (0, 1, 2, -4),
            "point": (1, 2, -4), "signal": (0, 1, -4), "set": (0, 1, 2)})

    def test_cases_over_any_plans(self):
        seen = self.check(23, 150, random_plan)
        self.assert_seen(seen, {"enter": (0, -5), "ask": (0, -5), "go": (1, 0, -3), "turn": (0, -4), "set": (0, 1)})

    def test_the_largest_case(self):
        for plan in (STATION, ROW):
            lap = [[1, 0, 0, 3], [2, 0], [5, 0], [5, 0], [6, 0], [6, 0], [7, 0], [11], [8, 1], [10, 0], [6, 0], [5, 0]]
            calls = ([read(*plan)] + lap * 40)[:MOST_CALLS]
            numbers = sum(len(call) for call in calls) - 1
            self.assertLessEqual(MOST_CALLS * (numbers + 200), MOST_WEIGHT)
            box, expected = SecondBox(), []
            for call in calls:
                arguments = [plan] if call[0] == 0 else call[1:]
                expected.append(getattr(box, SORTS[call[0]])(*arguments))
            self.assertEqual(run(*calls), expected)


if __name__ == "__main__":
    unittest.main()
