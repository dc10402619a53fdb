"""train, section, point, signal, set: what they tell, in each state that they tell of, and what is refused."""

import unittest

from tests.helper import (A, B, CROSSING, E, LONG, P, Q, ROW, STATION, TELLING, W, Calls, ask, box_after, cancel, enter,
                          go, last, read, read_bytes, run, state, tell_point, tell_section, tell_set, tell_signal,
                          tell_train, throw, told_after, turn)

BIG = 4294967295


def sections(*before):
    return [last(*before, tell_section(n)) for n in range(6)]


def signals(*before):
    return [last(*before, tell_signal(n)) for n in range(6)]


class TellTrain(Calls):
    def test_a_train_that_has_come_in(self):
        for number in range(8):
            for length in (1, 2, 3):
                self.assertEqual(last(read(*STATION), enter(number, 0, length), tell_train(number)), [1, W, 1, 0])
                self.assertEqual(last(read(*STATION), enter(number, 1, length), tell_train(number)), [1, E, 0, 0])

    def test_a_train_on_its_way(self):
        expected = {
            1: ([1, W, 1, 0], [1, P, 2, 3], [1, B, 1, 2], [1, Q, 0, 1], [1, E, 1, 0], [-4]),
            2: ([1, W, 1, 0], [2, P, W, 2, 3], [2, B, P, 1, 2], [2, Q, B, 0, 1], [2, E, Q, 1, 0], [-4]),
            3: ([1, W, 1, 0], [2, P, W, 2, 3], [3, B, P, W, 1, 2], [3, Q, B, P, 0, 1], [3, E, Q, B, 1, 0], [-4]),
        }
        for length, rows in expected.items():
            for steps, row in enumerate(rows):
                before = (read(*LONG), enter(2, 0, length), ask(1)) + (go(2),) * steps
                self.assertEqual(last(*before, tell_train(2)), row)

    def test_the_end_for_which_it_heads(self):
        before = (read(*CROSSING), enter(0, 2), ask(2), go(0))
        self.assertEqual(last(*before, tell_train(0)), [1, 4, 3, 2])
        self.assertEqual(last(*before, go(0), tell_train(0)), [1, 5, 1, 1])
        before = (read(*CROSSING), enter(0, 4), ask(5), go(0))
        self.assertEqual(last(*before, tell_train(0)), [1, 5, 0, 2])
        self.assertEqual(last(*before, go(0), tell_train(0)), [1, 4, 2, 1])
        self.assertEqual(last(*before, go(0), go(0), tell_train(0)), [1, 2, 0, 0])

    def test_a_route_that_is_shown_is_not_yet_ahead(self):
        self.assertEqual(last(read(*LONG), enter(0, 0), ask(0), tell_train(0)), [1, W, 1, 0])

    def test_minus_4(self):
        self.assert_refused((), tell_train(0), [-4])
        for number in (0, 2, 7, 8, BIG):
            self.assert_refused((read(*STATION), enter(1, 0)), tell_train(number), [-4])
        self.assert_refused((read(*STATION), enter(1, 0), turn(1), go(1)), tell_train(1), [-4])


class TellSection(Calls):
    def test_free_locked_and_a_train(self):
        self.assertEqual(sections(read(*STATION)), [[0]] * 6)
        self.assertEqual(sections(read(*STATION), ask(0)), [[0], [1, 0], [1, 0], [0], [0], [0]])
        self.assertEqual(sections(read(*STATION), enter(0, 0), ask(1), ask(6)),
                         [[2, 0], [1, 1], [1, 6], [1, 1], [1, 6], [0]])
        self.assertEqual(sections(read(*STATION), enter(7, 1, 3), ask(0)), [[0], [1, 0], [1, 0], [0], [0], [2, 7]])

    def test_a_train_that_goes_comes_in_and_leaves(self):
        start = (read(*LONG), enter(3, 0, 2), ask(0))
        rows = (
            [[2, 3], [1, 0], [1, 0], [0], [1, 0], [1, 0]],
            [[2, 3], [2, 3], [1, 0], [0], [1, 0], [1, 0]],
            [[0], [2, 3], [2, 3], [0], [1, 0], [1, 0]],
            [[0], [0], [2, 3], [0], [2, 3], [1, 0]],
            [[0], [0], [0], [0], [2, 3], [2, 3]],
            [[0]] * 6,
        )
        for steps, row in enumerate(rows):
            self.assertEqual(sections(*start, *[go(3)] * steps), row)

    def test_a_route_cancelled(self):
        self.assertEqual(sections(read(*STATION), ask(1), ask(6), cancel(1)), [[0], [0], [1, 6], [0], [1, 6], [0]])

    def test_minus_4(self):
        self.assert_refused((), tell_section(0), [-4])
        for plan, count in (((), 0), (STATION, 6), (ROW, 5), (["plain S%d" % n for n in range(16)], 16)):
            if count:
                self.assertEqual(last(read(*plan), tell_section(count - 1)), [0])
            for number in (count, count + 1, BIG):
                self.assert_refused((read(*plan),), tell_section(number), [-4])


class TellPoint(Calls):
    def test_normal_at_first(self):
        self.assertEqual(run(read(*STATION), tell_point(P), tell_point(Q)), [[6], [1], [1]])

    def test_thrown(self):
        for count in range(5):
            told = run(read(*STATION), *[throw(Q)] * count, tell_point(P), tell_point(Q))
            self.assertEqual(told[-2:], [[1], [1 + count % 2]])

    def test_laid_by_a_route(self):
        for before in ((), (throw(P),), (throw(Q),), (throw(P), throw(Q))):
            for route in (0, 1):
                told = run(read(*LONG), *before, ask(route), tell_point(P), tell_point(Q))
                self.assertEqual(told[-2:], [[1 + route]] * 2)

    def test_it_stays_when_the_route_is_cancelled_or_gone_by(self):
        told = run(read(*STATION), ask(1), tell_point(P), cancel(1), tell_point(P), throw(P), tell_point(P))
        self.assertEqual(told, [[6], [0], [2], [0], [2], [0], [1]])
        told = run(read(*STATION), enter(0, 0), ask(1), go(0), tell_point(P), go(0), tell_point(P))
        self.assertEqual(told[-3:], [[2], [1, B], [2]])

    def test_it_does_not_move_in_a_set_route_nor_under_a_train(self):
        start = (read(*STATION), enter(0, 0, 3), ask(1))
        for steps in range(3):
            before = start + (go(0),) * steps
            self.assert_refused(before, throw(P), [-5])
            self.assertLess(last(*before, ask(0))[0], 0)
            self.assertEqual(last(*before, ask(0), tell_point(P)), [2])

    def test_a_route_that_is_refused_lays_none(self):
        told = run(read(*LONG), enter(0, 1), ask(1), tell_point(P), tell_point(Q))
        self.assertEqual(told[-3:], [[-5, E, 2], [1], [1]])

    def test_minus_4(self):
        self.assert_refused((), tell_point(0), [-4])
        for section in (W, A, B, E, 6, 7, BIG):
            self.assert_refused((read(*STATION),), tell_point(section), [-4])
        # X is a cross, and one above the last section there is none.
        for section in (0, 4, 7, BIG):
            self.assert_refused((read(*CROSSING),), tell_point(section), [-4])
        self.assertEqual(last(read(*CROSSING), tell_point(5)), [1])


class TellSignal(Calls):
    def test_none_at_first(self):
        self.assertEqual(signals(read(*STATION)), [[0]] * 6)

    def test_each_route_is_shown_by_its_own_signal(self):
        for route, signal in enumerate((0, 0, 1, 2, 3, 4, 5, 5)):
            expected = [[0]] * 6
            expected[signal] = [1, route]
            self.assertEqual(signals(read(*STATION), ask(route)), expected)
            self.assertEqual(signals(read(*STATION), ask(route), cancel(route)), [[0]] * 6)

    def test_routes_beside_one_another(self):
        self.assertEqual(signals(read(*STATION), ask(1), ask(6)), [[1, 1], [0], [0], [0], [0], [1, 6]])

    def test_none_as_soon_as_a_train_has_come_into_its_first_section(self):
        start = (read(*LONG), enter(0, 0), ask(1))
        self.assertEqual(last(*start, tell_signal(0)), [1, 1])
        for steps in range(1, 6):
            self.assertEqual(last(*start, *[go(0)] * steps, tell_signal(0)), [0])

    def test_a_signal_may_have_no_route(self):
        plan = read("plain A", "point P", "border A.0", "join A.1 P.0", "signal A.1")
        self.assertEqual(run(plan, tell_signal(0), tell_signal(1)), [[2], [0], [-4]])

    def test_a_refused_route_is_not_shown(self):
        self.assertEqual(signals(read(*STATION), ask(0), ask(1), ask(2)), [[1, 0]] + [[0]] * 5)

    def test_minus_4(self):
        self.assert_refused((), tell_signal(0), [-4])
        for plan, count in (((), 0), (LONG, 1), (STATION, 6), (ROW, 8)):
            for number in (count, count + 1, BIG):
                self.assert_refused((read(*plan),), tell_signal(number), [-4])


class TellSet(Calls):
    def test_none(self):
        told = run(tell_set(), read(*STATION), tell_set(), enter(0, 0), tell_set())
        self.assertEqual(told, [[0], [6], [0], [0], [0]])

    def test_rising_in_whatever_order_they_were_asked(self):
        for first, second in ((1, 6), (6, 1)):
            self.assertEqual(last(read(*STATION), ask(first), ask(second), tell_set()), [2, 1, 6])
        # On the row route 4 leads to D, 0 to B, 6 to E, 2 to C.
        self.assertEqual(last(read(*ROW), ask(4), ask(0), ask(6), ask(2), tell_set()), [4, 0, 2, 4, 6])

    def test_a_route_is_told_once_though_many_sections_are_locked_for_it(self):
        self.assertEqual(last(read(*LONG), ask(1), tell_set()), [1, 1])

    def test_a_route_is_told_until_its_last_section_is_come_into(self):
        start = (read(*LONG), enter(0, 0), ask(1))
        for steps, told in enumerate(([1, 1], [1, 1], [1, 1], [1, 1], [0], [0])):
            self.assertEqual(last(*start, *[go(0)] * steps, tell_set()), told)

    def test_a_route_come_into_in_part(self):
        start = (read(*STATION), enter(0, 0), ask(1), go(0))
        told = run(*start, tell_section(P), tell_section(B), tell_signal(0), tell_set(), cancel(1), ask(1), tell_set())
        self.assertEqual(told[len(start):], [[2, 0], [1, 1], [0], [1, 1], [-3], [-5, P, 2], [1, 1]])
        told = run(*start, ask(6), tell_signal(5), tell_set(), go(0), tell_set(), cancel(6), tell_set())
        self.assertEqual(told[len(start):], [[0], [1, 6], [2, 1, 6], [1, B], [1, 6], [0], [0]])

    def test_a_route_cancelled(self):
        told = run(read(*STATION), ask(0), ask(7), cancel(0), tell_set(), cancel(7), tell_set(), cancel(7), tell_set())
        self.assertEqual(told[3:], [[0], [1, 7], [0], [0], [-3], [0]])


class TellNothingElse(Calls):
    def test_telling_changes_nothing(self):
        for before in ((), (read(*STATION),), (read(*STATION), enter(0, 0, 3), ask(1), go(0), enter(1, 1), turn(1)),
                       (read(*LONG), enter(0, 0, 2), ask(1), go(0), go(0)), (read(*CROSSING), ask(3), throw(5))):
            self.assertEqual(state(box_after(*before, *TELLING)), state(box_after(*before)))
            self.assertEqual(told_after(*before, *TELLING), told_after(*before))

    def test_a_plan_read_again_with_trains_and_routes_there(self):
        busy = (read(*STATION), throw(Q), enter(0, 0, 3), ask(1), go(0), go(0), ask(5), go(0), enter(1, 1), turn(0))
        self.assertNotEqual(told_after(*busy), told_after(read(*STATION)))
        for plan in (STATION, LONG, ROW, CROSSING, ("plain A",), ()):
            self.assertEqual(told_after(*busy, read(*plan)), told_after(read(*plan)))
        self.assertEqual(told_after(*busy, read()), told_after())

    def test_a_read_that_is_refused_leaves_trains_and_routes_there(self):
        busy = (read(*STATION), throw(Q), enter(0, 0, 3), ask(1), go(0), enter(1, 1), turn(1))
        self.assert_refused(busy, read_bytes([65] * 1025), [-2])
        self.assert_refused(busy, read("plain A", "plain A"), [-6, 1, 2])
        self.assert_refused(busy, read_bytes(b"plain A\nborder A.0"), [-6, 1, 1])


if __name__ == "__main__":
    unittest.main()
