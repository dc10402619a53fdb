"""turn: where a train heads then, how its sections stand, how it goes on, and what is refused."""

import unittest

from tests.helper import (A, B, CROSSING, E, LONG, P, Q, ROW, STATION, W, Calls, ask, cancel, enter, go, last, read,
                          run, tell_point, tell_section, tell_set, tell_signal, tell_train, throw, told_after, turn)

BIG = 4294967295

# A train of two or three sections that has gone by the row's signals, from A.0 on to the last of these.
ROUTE_TO = {1: 0, 2: 2, 3: 4, 4: 6}


def along_row(length, foremost):
    calls = (read(*ROW), enter(0, 0, length))
    for section in range(1, foremost + 1):
        calls += (ask(ROUTE_TO[section]), go(0))
    return calls


def step(route):
    return (ask(route), go(0))


class OneSection(Calls):
    def test_it_heads_for_the_end_by_which_it_came_in(self):
        for length in (1, 2, 3):
            told = run(read(*STATION), enter(0, 0, length), tell_train(0), turn(0), tell_train(0))
            self.assertEqual(told, [[6], [0], [1, W, 1, 0], [0], [1, W, 0, 0]])
            told = run(read(*STATION), enter(5, 1, length), tell_train(5), turn(5), tell_train(5))
            self.assertEqual(told, [[6], [0], [1, E, 0, 0], [0], [1, E, 1, 0]])

    def test_it_leaves_by_the_border_by_which_it_came(self):
        told = run(read(*STATION), enter(0, 0), turn(0), go(0), tell_train(0), tell_section(W), enter(0, 0))
        self.assertEqual(told, [[6], [0], [0], [0], [-4], [0], [0]])
        for border in (0, 1):
            told = run(read("plain A", "border A.0", "border A.1"), enter(0, border), turn(0), tell_train(0), go(0))
            self.assertEqual(told, [[1], [0], [0], [1, 0, border, 0], [0]])

    def test_it_has_left_the_point_behind_it(self):
        start = (read(*STATION), enter(0, 0), ask(1), go(0), go(0))
        self.assertEqual(run(*start, tell_train(0), turn(0), tell_train(0))[-3:], [[1, B, 1, 0], [0], [1, B, 0, 0]])
        # The point behind it is free, so it may have been thrown before it turns.
        self.assertEqual(run(*start, throw(P), turn(0), tell_train(0), tell_point(P))[-4:],
                         [[0], [0], [1, B, 0, 0], [1]])

    def test_it_goes_back_by_a_signal(self):
        start = (read(*STATION), enter(0, 0), ask(1), go(0), go(0), turn(0))
        self.assertEqual(run(*start, go(0), ask(4), go(0), tell_train(0), go(0), tell_train(0), go(0))[-7:],
                         [[-2], [0], [1, P], [1, P, 0, 1], [1, W], [1, W, 0, 0], [0]])

    def test_a_border_and_a_signal_change_places(self):
        start = (read(*STATION), enter(0, 0), ask(0), go(0), go(0), ask(3), go(0), go(0))
        self.assertEqual(run(*start, tell_train(0), turn(0), go(0), ask(7), go(0), go(0), tell_train(0))[-7:],
                         [[1, E, 1, 0], [0], [-2], [0], [1, Q], [1, B], [1, B, 0, 0]])

    def test_it_may_have_no_way_on(self):
        plan = read("plain A", "plain B", "border A.0", "join A.1 B.0", "signal A.1")
        start = (plan, enter(0, 0), ask(0), go(0))
        # Ahead of it the track ends; behind it stands no signal for it.
        self.assert_refused(start, go(0), [-3])
        self.assert_refused(start + (turn(0),), go(0), [-3])
        self.assertEqual(last(*start, turn(0), tell_train(0)), [1, 1, 0, 0])
        self.assert_refused(start + (turn(0), turn(0)), go(0), [-3])

    def test_no_way_on_ahead_but_one_behind(self):
        told = run(read("plain A", "border A.0"), enter(0, 0), go(0), turn(0), go(0), tell_train(0))
        self.assertEqual(told, [[1], [0], [-3], [0], [0], [-4]])


class MoreSections(Calls):
    def test_two_sections_turn(self):
        told = run(*along_row(2, 1), tell_train(0), turn(0), tell_train(0), tell_section(0), tell_section(1))
        self.assertEqual(told[-5:], [[2, 1, 0, 1, 0], [0], [2, 0, 1, 0, 0], [2, 0], [2, 0]])

    def test_two_sections_leave_by_a_border_together(self):
        told = run(*along_row(2, 1), turn(0), go(0), tell_section(0), tell_section(1), tell_train(0))
        self.assertEqual(told[-4:], [[0], [0], [0], [-4]])

    def test_two_sections_turn_go_on_and_turn_again(self):
        there = along_row(2, 3)
        told = run(*there, tell_train(0), turn(0), tell_train(0), *step(3), tell_train(0), turn(0), tell_train(0),
                   *step(4), tell_train(0))
        self.assertEqual(told[len(there):], [
            [2, 3, 2, 1, 0], [0], [2, 2, 3, 0, 0], [0], [1, 1], [2, 1, 2, 0, 0], [0], [2, 2, 1, 1, 0],
            [0], [1, 3], [2, 3, 2, 1, 0]])

    def test_three_sections_turn_go_on_and_turn_again(self):
        there = along_row(3, 3)
        told = run(*there, tell_train(0), turn(0), tell_train(0), *step(1), tell_train(0), turn(0), tell_train(0),
                   *step(4), tell_train(0), turn(0), tell_train(0))
        self.assertEqual(told[len(there):], [
            [3, 3, 2, 1, 1, 0], [0], [3, 1, 2, 3, 0, 0], [0], [1, 0], [3, 0, 1, 2, 0, 0], [0], [3, 2, 1, 0, 1, 0],
            [0], [1, 3], [3, 3, 2, 1, 1, 0], [0], [3, 1, 2, 3, 0, 0]])

    def test_what_a_turned_train_leaves_is_free(self):
        there = along_row(3, 3) + (turn(0), ask(1), go(0))
        self.assertEqual([last(*there, tell_section(n)) for n in range(5)], [[2, 0], [2, 0], [2, 0], [0], [0]])
        self.assertEqual(run(*there, enter(1, 1), ask(7), go(1), go(0), tell_train(0), tell_train(1))[-6:],
                         [[0], [0], [1, 3], [0], [-4], [1, 3, 0, 0]])

    def test_a_train_longer_than_the_sections_it_is_in(self):
        there = along_row(3, 1) + (turn(0),)
        self.assertEqual(last(*there, tell_train(0)), [2, 0, 1, 0, 0])
        # Turned back it goes on, and is in three sections then.
        self.assertEqual(run(*there, turn(0), *step(2), tell_train(0))[-1:], [[3, 2, 1, 0, 1, 0]])

    def test_a_point_within_it(self):
        for route, by in ((0, A), (1, B)):
            there = (read(*STATION), enter(0, 0, 3), ask(route), go(0), go(0))
            told = run(*there, tell_train(0), turn(0), tell_train(0), turn(0), tell_train(0), throw(P), tell_point(P))
            self.assertEqual(told[len(there):], [[3, by, P, W, 1, 0], [0], [3, W, P, by, 0, 0], [0],
                                                 [3, by, P, W, 1, 0], [-5], [1 + route]])

    def test_a_point_within_it_that_is_left_by_its_toe(self):
        there = (read(*STATION), enter(0, 0, 3), ask(1), go(0), go(0), ask(5), go(0), go(0))
        told = run(*there, tell_train(0), turn(0), tell_train(0), go(0), ask(4), go(0), tell_train(0), turn(0), go(0),
                   tell_train(0), turn(0), tell_train(0), ask(5), go(0), tell_train(0))
        self.assertEqual(told[len(there):], [
            [3, E, Q, B, 1, 0], [0], [3, B, Q, E, 0, 0], [-2], [0], [1, P], [3, P, B, Q, 0, 1], [-3], [1, W],
            [3, W, P, B, 0, 0], [0], [3, B, P, W, 1, 0], [0], [1, Q], [3, Q, B, P, 0, 1]])

    def test_a_cross_within_it(self):
        there = (read(*CROSSING), enter(0, 0, 3), ask(0), go(0), go(0))
        told = run(*there, tell_train(0), turn(0), tell_train(0), turn(0), tell_train(0), turn(0), go(0),
                   tell_section(4))
        self.assertEqual(told[len(there):], [[3, 1, 4, 0, 1, 0], [0], [3, 0, 4, 1, 0, 0], [0], [3, 1, 4, 0, 1, 0], [0],
                                             [0], [0]])

    def test_the_other_track_of_a_cross_within_it(self):
        plan = read("plain C", "cross X", "plain D", "join C.1 X.2", "join X.3 D.1", "border C.0", "signal C.1",
                    "signal D.1")
        there = (plan, enter(4, 0, 3), ask(0), go(4), go(4))
        told = run(*there, tell_train(4), turn(4), tell_train(4), turn(4), tell_train(4))
        # It came into D by 1, so it heads for 0 there.
        self.assertEqual(told[len(there):], [[3, 2, 1, 0, 0, 0], [0], [3, 0, 1, 2, 0, 0], [0], [3, 2, 1, 0, 0, 0]])

    def test_sections_that_are_joined_twice(self):
        # P and A are joined by both of A's ends: by which of them the train came in, its way alone tells.
        loop = ("plain T", "point P", "plain A", "border T.0", "join T.1 P.0", "join P.1 A.0", "join P.2 A.1",
                "signal T.1", "signal A.0", "signal A.1")
        for route, heads in ((0, 1), (1, 0)):
            there = (read(*loop), enter(0, 0, 3), ask(route), go(0), go(0))
            told = run(*there, tell_train(0), turn(0), tell_train(0), turn(0), tell_train(0))
            self.assertEqual(told[len(there):], [[3, 2, 1, 0, heads, 0], [0], [3, 0, 1, 2, 0, 0], [0],
                                                 [3, 2, 1, 0, heads, 0]])
            there = (read(*loop), enter(0, 0, 1), ask(route), go(0), go(0))
            told = run(*there, tell_train(0), turn(0), tell_train(0))
            self.assertEqual(told[len(there):], [[1, 2, heads, 0], [0], [1, 2, 1 - heads, 0]])

    def test_both_ways_round_a_ring(self):
        ring = ("plain A", "plain B", "plain C", "point P", "border C.0", "join C.1 P.0", "join P.1 A.0",
                "join A.1 B.0", "join B.1 P.2", "signal C.1", "signal A.1", "signal B.1", "signal B.0", "signal A.0")
        # Signals: A.0 0, A.1 1, B.0 2, B.1 3, C.1 4. Routes: 0 P C, 1 B, 2 A, 3 P C, 4 P A, 5 P B.
        for first, then, at, on, ends in ((4, 1, 0, 1, (1, 0)), (5, 2, 1, 0, (0, 1))):
            there = (read(*ring), enter(0, 0, 2), ask(first), go(0), go(0), ask(then), go(0))
            told = run(*there, tell_train(0), turn(0), tell_train(0), turn(0), tell_train(0))
            self.assertEqual(told[len(there):], [[2, on, at, ends[0], 0], [0], [2, at, on, ends[1], 0], [0],
                                                 [2, on, at, ends[0], 0]])
            # Its last section is the point, if it is longer by that.
            there = (read(*ring), enter(0, 0, 3), ask(first), go(0), go(0), ask(then), go(0))
            self.assertEqual(run(*there, tell_train(0), ask(3 if on == 1 else 0), turn(0))[len(there):],
                             [[3, on, at, 3, ends[0], 0], [-5, 3, 2], [-3]])


class TurnedTwice(Calls):
    def assert_twice_is_none(self, *before):
        for number in range(8):
            if last(*before, tell_train(number)) != [-4] and last(*before, turn(number)) == [0]:
                self.assertNotEqual(told_after(*before, turn(number)), told_after(*before))
                self.assertEqual(last(*before, turn(number), turn(number)), [0])
                self.assertEqual(told_after(*before, turn(number), turn(number)), told_after(*before))

    def test_it_is_as_it_was(self):
        for length in (1, 2, 3):
            for foremost in range(5):
                self.assert_twice_is_none(*along_row(length, foremost))
                self.assert_twice_is_none(*along_row(length, foremost), turn(0))
            for route in (0, 1):
                self.assert_twice_is_none(read(*STATION), enter(3, 0, length), ask(route), go(3), go(3), enter(4, 1))
            for route in (2, 3):
                self.assert_twice_is_none(read(*CROSSING), enter(7, 2, length), ask(route), go(7), go(7), go(7))

    def test_it_goes_on_as_if_it_had_not_turned(self):
        there = along_row(3, 2) + (ask(4),)
        self.assertEqual(run(*there, turn(0), turn(0), go(0), tell_train(0))[-2:], [[1, 3], [3, 3, 2, 1, 1, 0]])
        self.assertEqual(run(*there, go(0), tell_train(0))[-2:], [[1, 3], [3, 3, 2, 1, 1, 0]])


class WhatStays(Calls):
    def test_routes_and_points_stay_as_they_are(self):
        there = (read(*STATION), throw(Q), enter(0, 0), ask(1), ask(3))
        before, after = told_after(*there), told_after(*there, turn(0))
        self.assertEqual([n for n in range(len(before)) if before[n] != after[n]], [0])
        self.assertEqual((before[0], after[0]), ([1, W, 1, 0], [1, W, 0, 0]))

    def test_a_route_shown_ahead_waits_for_a_train_that_turns_away(self):
        there = along_row(1, 1) + (ask(2), turn(0))
        self.assertEqual(run(*there, tell_signal(2), go(0), turn(0), go(0))[-4:], [[1, 2], [-2], [0], [1, 2]])

    def test_a_route_shown_behind_is_taken_when_it_has_turned(self):
        there = along_row(1, 1) + (ask(1),)
        self.assertEqual(run(*there, tell_signal(1), go(0), turn(0), go(0), tell_signal(1), tell_train(0))[-6:],
                         [[1, 1], [-2], [0], [1, 0], [0], [1, 0, 0, 0]])

    def test_other_trains_stay_as_they_are(self):
        there = along_row(2, 1) + (enter(1, 1, 3), ask(7), go(1))
        self.assertEqual(last(*there, turn(0), tell_train(1)), [2, 3, 4, 0, 0])
        self.assertEqual(run(*there, turn(1), tell_train(1), tell_train(0))[-2:], [[2, 4, 3, 1, 0], [2, 1, 0, 1, 0]])


class Refused(Calls):
    def test_minus_4_there_is_no_such_train(self):
        self.assert_refused((), turn(0), [-4])
        for train in (1, 7, 8, BIG):
            self.assert_refused((read(*STATION), enter(0, 0)), turn(train), [-4])
        self.assert_refused((read(*STATION), enter(0, 0), turn(0), go(0)), turn(0), [-4])
        self.assert_refused((read(*STATION), enter(0, 0), read(*STATION)), turn(0), [-4])

    def test_minus_3_it_is_on_its_way(self):
        for length in (1, 2, 3):
            for steps in range(1, 4):
                # Route 0 of LONG has four sections; so with three steps it is still on its way, in whatever section.
                self.assert_refused((read(*LONG), enter(0, 0, length), ask(0)) + (go(0),) * steps, turn(0), [-3])
        there = (read(*LONG), enter(0, 0, 1), ask(0), go(0), go(0))
        self.assertEqual(last(*there, tell_train(0)), [1, A, 1, 2])
        self.assertEqual(run(*there, go(0), go(0), turn(0))[-1:], [[0]])

    def test_not_on_its_way_before_it_goes(self):
        self.assertEqual(last(read(*LONG), enter(0, 0), ask(0), turn(0)), [0])

    def test_minus_3_its_last_section_is_a_point(self):
        there = (read(*STATION), enter(0, 0, 2), ask(0), go(0), go(0))
        self.assertEqual(last(*there, tell_train(0)), [2, A, P, 1, 0])
        self.assert_refused(there, turn(0), [-3])
        # It goes on, and may turn as soon as its last section is plain.
        self.assertEqual(run(*there, cancel(0), ask(3), go(0), turn(0), go(0), turn(0))[-6:],
                         [[-3], [0], [1, Q], [-3], [1, E], [-3]])
        self.assertEqual(run(*there, ask(3), go(0), go(0), go(0), tell_set())[-2:], [[0], [0]])

    def test_minus_3_its_last_section_is_a_cross(self):
        there = (read(*CROSSING), enter(0, 0, 2), ask(0), go(0), go(0))
        self.assertEqual(last(*there, tell_train(0)), [2, 1, 4, 1, 0])
        self.assert_refused(there, turn(0), [-3])
        there = (read(*CROSSING), enter(0, 2, 3), ask(2), go(0), go(0), go(0))
        self.assertEqual(last(*there, tell_train(0)), [3, 3, 5, 4, 1, 0])
        self.assert_refused(there, turn(0), [-3])

    def test_the_last_section_counts_not_the_ones_between(self):
        for length, answer in ((1, [0]), (2, [-3]), (3, [0])):
            self.assertEqual(last(read(*STATION), enter(0, 0, length), ask(0), go(0), go(0), turn(0)), answer)
            self.assertEqual(last(read(*CROSSING), enter(0, 0, length), ask(0), go(0), go(0), turn(0)), answer)


if __name__ == "__main__":
    unittest.main()
