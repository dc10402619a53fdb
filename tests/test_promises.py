"""The promises 1 to 5, kept at each call of long walks over many plans, whatever is asked in whatever order."""

import copy
import random
import unittest

from tests.helper import LONG, STATION, call_box, parted_answers, read, state
from tests.test_routes import random_plan
from yardbox.box import Box, answers

CROSSING = (
    "plain A", "plain B", "plain C", "plain D", "cross X", "point P", "plain F",
    "join A.1 X.0", "join X.1 B.0", "join C.1 X.2", "join X.3 P.0", "join P.1 D.0", "join P.2 F.0",
    "border A.0", "border B.1", "border C.0", "border D.1", "border F.1",
    "signal A.1", "signal B.0", "signal C.1", "signal D.0", "signal F.0",
)


def through(kind, lies, came, leaving):
    """Whether a train may stand across a section of this kind, a point lying so."""
    if kind == 3:
        return {came, leaving} == {0, lies}
    return {came, leaving} in ({0, 1}, {2, 3})


def some_call(rng, box):
    """A call that is often one that can be met, and sometimes one that is wrong."""
    number = rng.choice((1, 2, 2, 2, 3, 4, 5, 5, 5, 5))
    if number == 1:
        return [1, rng.randint(0, 8), rng.randint(0, len(box.plan.borders)), rng.choice((0, 1, 1, 2, 2, 3, 3, 4))]
    if number in (2, 3):
        heads = [train.ends[0] for train in box.trains.values()]
        wanted = [n for n, route in enumerate(box.routes) if route.signal_end in heads]
        return [number, rng.choice(wanted * 3 + list(range(len(box.routes) + 1)))]
    if number == 4:
        return [4, rng.randint(0, len(box.plan.kinds))]
    return [5, rng.choice(sorted(box.trains) * 3 + [rng.randint(0, 8)])]


def free(box, section):
    return box.locked_for[section] is None and box.train_in[section] is None


class Promises(unittest.TestCase):
    def setUp(self):
        # How often each call has had each answer.
        self.seen = {}

    def walk(self, rng, lines, count):
        box = Box()
        calls = [read(*lines)]
        told = [call_box(box, calls[0])]
        if told[0][0] < 0:
            return
        for _ in range(count):
            before = copy.deepcopy(box)
            calls.append(some_call(rng, box))
            told.append(call_box(box, calls[-1]))
            self.check_trains(box)
            self.check_ways_ahead(box)
            self.check_points(before, box, calls[-1])
            self.check_answer(before, box, calls[-1], told[-1])
        self.assertEqual(parted_answers(answers([number for call in calls for number in call])), told)
        for call, answer in zip(calls, told):
            self.seen[(call[0], answer[0])] = self.seen.get((call[0], answer[0]), 0) + 1

    def check_trains(self, box):
        """Promises 1 and 2: one train a section, none of these locked; each on joined track, points lying so."""
        inside = {}
        for number, train in box.trains.items():
            self.assertTrue(1 <= len(train.ends) <= train.length)
            for section, _ in train.ends:
                self.assertNotIn(section, inside)
                inside[section] = number
                self.assertIsNone(box.locked_for[section])
            for front, behind in zip(train.ends, train.ends[1:]):
                came = box.plan.joined[behind]
                self.assertEqual(came[0], front[0])
                self.assertTrue(through(box.plan.kinds[front[0]], box.lies[front[0]], came[1], front[1]))
        self.assertEqual(box.train_in, [inside.get(section) for section in range(len(box.plan.kinds))])

    def check_ways_ahead(self, box):
        """Promise 4: what is ahead is joined and locked for one route; without it a train stands where it may."""
        for train in box.trains.values():
            at = train.ends[0]
            locks = {box.locked_for[end[0]] for end in train.ahead}
            self.assertTrue(len(locks) <= 1 and None not in locks)
            for end in train.ahead:
                came = box.plan.joined[at]
                self.assertEqual(came[0], end[0])
                self.assertTrue(through(box.plan.kinds[end[0]], box.lies[end[0]], came[1], end[1]))
                at = end
            if len(train.ends) > 1 and not train.ahead:
                self.assertTrue(box.plan.may_stop(train.ends[0]))

    def check_points(self, before, box, call):
        """Promise 2: a point moves only if it was free, by throw itself or by a route through it."""
        for section in range(len(box.plan.kinds)):
            if box.lies[section] != before.lies[section]:
                self.assertEqual(box.plan.kinds[section], 3)
                self.assertTrue(free(before, section))
                self.assertTrue(call == [4, section] or call[0] == 2 and section in box.routes[call[1]].sections)
        for number in set(box.locked_for) - {None}:
            for section, lie in box.routes[number].needs:
                if box.locked_for[section] == number:
                    self.assertEqual(box.lies[section], lie)

    def check_answer(self, before, box, call, answer):
        if answer[0] < 0:
            self.assertEqual(state(box), state(before))
        if call[0] == 2 and call[1] < len(box.routes):
            self.check_ask(before, box, box.routes[call[1]], call[1], answer)
        if call[0] == 5 and call[1] in before.trains:
            self.check_go(before, box, call[1], answer)

    def check_ask(self, before, box, route, number, answer):
        """Promise 3: a route is set just if all its sections are free."""
        blocked = [section for section in route.sections if not free(before, section)]
        self.assertEqual(answer == [0], blocked == [])
        if blocked:
            kind = 1 if before.locked_for[blocked[0]] is not None else 2
            self.assertEqual(answer, [-5, blocked[0], kind])
        else:
            self.assertEqual({box.locked_for[section] for section in route.sections}, {number})

    def check_go(self, before, box, number, answer):
        """Promises 3 and 4: by a route that is shown alone; on its way always on; what it has left is free."""
        was = before.trains[number]
        head = was.ends[0]
        if was.ahead:
            self.assertEqual(answer, [1, was.ahead[0][0]])
        elif head in box.plan.borders:
            self.assertEqual(answer, [0])
            self.assertNotIn(number, box.trains)
        elif head not in box.plan.signals:
            self.assertEqual(answer, [-3])
        else:
            shown = [route for n, route in enumerate(box.routes) if route.signal_end == head
                     and {before.locked_for[section] for section in route.sections} == {n}]
            self.assertLessEqual(len(shown), 1)
            self.assertEqual(answer, [1, shown[0].sections[0]] if shown else [-2])
        now = [end[0] for end in box.trains[number].ends] if number in box.trains else []
        for section, _ in was.ends:
            self.assertTrue(section in now or free(box, section))
        if answer[0] == 1:
            self.assertEqual(now, ([answer[1]] + [end[0] for end in was.ends])[:was.length])

    def test_walks_over_given_yards(self):
        rng = random.Random(5)
        for lines in (STATION, LONG + ("signal E.0",), CROSSING) * 40:
            self.walk(rng, lines, 50)
        # A walk that never set a route or never sent a train on would check nothing.
        expected = {(1, 0), (1, -1), (1, -4), (1, -3), (1, -5), (2, 0), (2, -4), (2, -5), (3, 0), (3, -4), (3, -3),
                    (4, 0), (4, -4), (4, -5), (5, 1), (5, 0), (5, -4), (5, -2)}
        self.assertEqual({kind for kind in expected if self.seen.get(kind, 0) < 20}, set())

    def test_walks_over_many_plans(self):
        rng = random.Random(6)
        for _ in range(300):
            self.walk(rng, random_plan(rng), 40)
        expected = {(1, 0), (2, 0), (3, 0), (4, 0), (5, 0), (5, 1), (5, -2), (5, -3)}
        self.assertEqual({kind for kind in expected if self.seen.get(kind, 0) < 20}, set())


if __name__ == "__main__":
    unittest.main()
