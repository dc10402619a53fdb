"""The promises 1 to 5, kept at each call of long walks over many plans, whatever is asked in whatever order."""

import copy
import random
import unittest

from tests.helper import CROSSING, LONG, ROW, STATION, TELLING, call_box, parted_answers, read, state
from tests.test_routes import random_plan
from yardbox.box import Box, answers


def through(kind, lies, came, leaving):
    """Whether a train may stand across a section of this kind, a point lying so."""
    if kind == 3:
        return {came, leaving} == {0, lies}
    return {came, leaving} in ({0, 1}, {2, 3})


def busy_plan(rng):
    """The lines of a plan on which trains get about: nearly all ends are joined, with borders and many signals."""
    kinds = {"S%d" % n: rng.choice(("plain", "plain", "plain", "point", "cross")) for n in range(rng.randint(6, 16))}
    ends = [(name, end) for name, kind in kinds.items() for end in range({"plain": 2, "point": 3, "cross": 4}[kind])]
    rng.shuffle(ends)
    borders = [end for end in ends if kinds[end[0]] == "plain"][:rng.randint(2, 4)]
    inner = [end for end in ends if end not in borders]
    lines = ["%s %s" % (kind, name) for name, kind in kinds.items()] + ["border %s.%d" % end for end in borders]
    lines += ["join %s.%d %s.%d" % (one + other) for one, other in zip(inner[::2], inner[1::2])]
    # Signals beside the borders come first, since by them alone trains come into the yard.
    plain = [end for end in inner[:len(inner) // 2 * 2] if kinds[end[0]] == "plain"]
    plain.sort(key=lambda end: (end[0], 1 - end[1]) not in borders)
    return lines + ["signal %s.%d" % end for end in plain[:rng.randint(6, 12)]]


def some_call(rng, box):
    """A call that is often one that can be met, and sometimes one that is wrong."""
    number = rng.choice((1, 1, 2, 2, 2, 2, 2, 3, 4, 5, 5, 5, 5, 5, 5, 5, 6, 6, 7, 8, 9, 10, 11))
    if number == 1:
        return [1, rng.randint(0, 8), rng.randint(0, len(box.plan.borders)), rng.choice((0, 1, 2, 2, 3, 3, 3, 4))]
    if number in (2, 3):
        heads = [train.ends[0] for train in box.trains.values()]
        wanted = [n for n, route in enumerate(box.routes) if route.signal_end in heads]
        can_be_set = [n for n in wanted if all(free(box, section) for section in box.routes[n].sections)]
        if number == 2 and can_be_set and rng.random() < 0.6:
            return [2, rng.choice(can_be_set)]
        return [number, rng.choice(wanted * 3 + list(range(len(box.routes) + 1)))]
    if number in (4, 8, 9):
        return [number, rng.randint(0, len(box.plan.kinds))]
    if number == 10:
        return [10, rng.randint(0, len(box.plan.signals))]
    if number == 11:
        return [11]
    under_way = [n for n, train in sorted(box.trains.items()) if train.ahead]
    return [number, rng.choice(sorted(box.trains) * 3 + under_way * 4 + [rng.randint(0, 8)])]


def copied(box):
    """The box as it is now. Its plan and routes are the same objects: no call may change these, as state shows."""
    kept = copy.copy(box)
    kept.locked_for, kept.train_in, kept.lies = list(box.locked_for), list(box.train_in), list(box.lies)
    kept.trains = copy.deepcopy(box.trains)
    return kept


def free(box, section):
    return box.locked_for[section] is None and box.train_in[section] is None


class Promises(unittest.TestCase):
    def setUp(self):
        # How often each call has had each answer.
        self.seen = {}

    def walk(self, rng, lines, count):
        box = Box()
        calls = [read(*lines)]
        told = [call_box(box, calls[0])]
        if told[0][0] < 0:
            return
        for _ in range(count):
            before, laid_out = copied(box), state(box)
            calls.append(some_call(rng, box))
            told.append(call_box(box, calls[-1]))
            self.check_trains(box)
            self.check_ways_ahead(box)
            self.check_points(before, box, calls[-1])
            self.check_told(box)
            if told[-1][0] < 0 or calls[-1][0] > 6:
                self.assertEqual(state(box), laid_out)
            self.check_answer(before, box, calls[-1], told[-1])
        self.assertEqual(parted_answers(answers([number for call in calls for number in call])), told)
        for call, answer in zip(calls, told):
            self.seen[(call[0], answer[0])] = self.seen.get((call[0], answer[0]), 0) + 1

    def check_trains(self, box):
        """Promises 1 and 2: one train a section, none of these locked; each on joined track, points lying so."""
        inside = {}
        for number, train in box.trains.items():
            self.assertTrue(1 <= len(train.ends) <= train.length)
            for section, _ in train.ends:
                self.assertNotIn(section, inside)
                inside[section] = number
                self.assertIsNone(box.locked_for[section])
            for front, behind in zip(train.ends, train.ends[1:]):
                came = box.plan.joined[behind]
                self.assertEqual(came[0], front[0])
                self.assertTrue(through(box.plan.kinds[front[0]], box.lies[front[0]], came[1], front[1]))
        self.assertEqual(box.train_in, [inside.get(section) for section in range(len(box.plan.kinds))])

    def check_ways_ahead(self, box):
        """Promise 4: what is ahead of a train is joined, points lying so, and locked for one route."""
        for train in box.trains.values():
            at = train.ends[0]
            locks = {box.locked_for[end[0]] for end in train.ahead}
            self.assertTrue(len(locks) <= 1 and None not in locks)
            for end in train.ahead:
                came = box.plan.joined[at]
                self.assertEqual(came[0], end[0])
                self.assertTrue(through(box.plan.kinds[end[0]], box.lies[end[0]], came[1], end[1]))
                at = end

    def check_told(self, box):
        """What the telling calls tell is one picture, and telling it changes nothing."""
        before = state(box)
        told = {tuple(call): call_box(box, call) for call in TELLING}
        self.assertEqual(state(box), before)
        inside = {}
        for number in range(9):
            answer = told[7, number]
            self.assertEqual(answer == [-4], number not in box.trains)
            if answer != [-4]:
                self.assertEqual(len(answer), answer[0] + 3)
                inside.update({section: number for section in answer[1:-2]})
                self.assertEqual((answer[1], answer[-2]), box.trains[number].ends[0])
                self.assertEqual(answer[-1], len(box.trains[number].ahead))
        locks = [told[8, n][1] for n in range(17) if told[8, n][0] == 1]
        for section in range(17):
            answer = told[8, section]
            self.assertEqual(answer == [-4], section >= len(box.plan.kinds))
            self.assertEqual(answer == [2, inside.get(section)], section in inside)
            is_point = section < len(box.plan.kinds) and box.plan.kinds[section] == 3
            self.assertEqual(told[9, section], [box.lies[section]] if is_point else [-4])
        for signal in range(13):
            shown = [n for n, route in enumerate(box.routes) if route.signal_end in box.plan.signals[signal:signal + 1]
                     and all(told[8, section] == [1, n] for section in route.sections)]
            self.assertLessEqual(len(shown), 1)
            there = signal < len(box.plan.signals)
            self.assertEqual(told[10, signal], [1] + shown if shown else [0] if there else [-4])
        self.assertEqual(told[11,], [len(set(locks))] + sorted(set(locks)))

    def check_points(self, before, box, call):
        """Promise 2: a point moves only if it was free, by throw itself or by a route through it."""
        for section in range(len(box.plan.kinds)):
            if box.lies[section] != before.lies[section]:
                self.assertEqual(box.plan.kinds[section], 3)
                self.assertTrue(free(before, section))
                self.assertTrue(call == [4, section] or call[0] == 2 and section in box.routes[call[1]].sections)
        for number in set(box.locked_for) - {None}:
            for section, lie in box.routes[number].needs:
                if box.locked_for[section] == number:
                    self.assertEqual(box.lies[section], lie)

    def check_answer(self, before, box, call, answer):
        if call[0] == 2 and call[1] < len(box.routes):
            self.check_ask(before, box, box.routes[call[1]], call[1], answer)
        if call[0] == 5 and call[1] in before.trains:
            self.check_go(before, box, call[1], answer)
        if call[0] == 6 and call[1] in before.trains:
            self.check_turn(before, box, call[1], answer)

    def check_ask(self, before, box, route, number, answer):
        """Promise 3: a route is set just if all its sections are free."""
        blocked = [section for section in route.sections if not free(before, section)]
        self.assertEqual(answer == [0], blocked == [])
        if blocked:
            kind = 1 if before.locked_for[blocked[0]] is not None else 2
            self.assertEqual(answer, [-5, blocked[0], kind])
        else:
            self.assertEqual({box.locked_for[section] for section in route.sections}, {number})

    def check_go(self, before, box, number, answer):
        """Promises 3 and 4: by a route that is shown alone; on its way always on; what it has left is free."""
        was = before.trains[number]
        head = was.ends[0]
        if was.ahead:
            self.assertEqual(answer, [1, was.ahead[0][0]])
        elif head in box.plan.borders:
            self.assertEqual(answer, [0])
            self.assertNotIn(number, box.trains)
        elif head not in box.plan.signals:
            self.assertEqual(answer, [-3])
        else:
            shown = [route for n, route in enumerate(box.routes) if route.signal_end == head
                     and {before.locked_for[section] for section in route.sections} == {n}]
            self.assertLessEqual(len(shown), 1)
            self.assertEqual(answer, [1, shown[0].sections[0]] if shown else [-2])
        now = [end[0] for end in box.trains[number].ends] if number in box.trains else []
        for section, _ in was.ends:
            self.assertTrue(section in now or free(box, section))
        if answer[0] == 1:
            self.assertEqual(now, ([answer[1]] + [end[0] for end in was.ends])[:was.length])
            train = box.trains[number]
            self.assertTrue(train.ahead or box.plan.may_stop(train.ends[0]))

    def check_turn(self, before, box, number, answer):
        """Promise 5: turned twice, a train is as it was; turned once, it heads away from its other sections."""
        was, now = before.trains[number], box.trains[number]
        may = not was.ahead and box.plan.kinds[was.ends[-1][0]] == 2
        self.assertEqual(answer, [0] if may else [-3])
        if may:
            self.assertEqual([end[0] for end in now.ends], [end[0] for end in was.ends][::-1])
            self.assertEqual(now.ends[0], (was.ends[-1][0], 1 - was.ends[-1][1]))
            again = copied(box)
            self.assertEqual(call_box(again, [6, number]), [0])
            self.assertEqual(state(again), state(before))

    def test_walks_over_given_yards(self):
        rng = random.Random(5)
        for lines in (STATION, LONG + ("signal E.0",), CROSSING, ROW) * 20:
            self.walk(rng, lines, 200)
        # A walk that never set a route or never sent a train on would check nothing.
        expected = {(1, 0), (1, -1), (1, -4), (1, -3), (1, -5), (2, 0), (2, -4), (2, -5), (3, 0), (3, -4), (3, -3),
                    (4, 0), (4, -4), (4, -5), (5, 1), (5, 0), (5, -4), (5, -2), (6, 0), (6, -4), (6, -3), (7, 1),
                    (7, 2), (7, 3), (7, -4), (8, 0), (8, 1), (8, 2), (8, -4), (9, 1), (9, 2), (9, -4), (10, 0),
                    (10, 1), (10, -4), (11, 0), (11, 1), (11, 2)}
        self.assertEqual({kind for kind in expected if self.seen.get(kind, 0) < 20}, set())

    def test_walks_over_many_plans(self):
        rng = random.Random(6)
        for _ in range(150):
            self.walk(rng, random_plan(rng), 60)
            self.walk(rng, busy_plan(rng), 120)
        expected = {(1, 0), (2, 0), (3, 0), (4, 0), (5, 0), (5, 1), (5, -2), (5, -3), (6, 0), (6, -3), (7, 1), (7, 2),
                    (8, 0), (8, 1), (8, 2), (9, 1), (9, 2), (10, 0), (10, 1), (11, 0), (11, 1)}
        self.assertEqual({kind for kind in expected if self.seen.get(kind, 0) < 20}, set())


if __name__ == "__main__":
    unittest.main()
