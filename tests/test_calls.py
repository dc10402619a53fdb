"""enter, ask, cancel, throw, go: what they answer, their refusals in order, and how calls are handed in."""

import unittest

from tests.helper import (A, B, E, LONG, P, Q, STATION, W, Calls, ask, box_after, cancel, enter, go, last, read, run,
                          tell_point, tell_section, tell_set, tell_signal, tell_train, throw, turn)
from yardbox.box import answers

BIG = 4294967295


class Enter(Calls):
    def test_a_train_comes_in_by_a_border_and_heads_for_the_other_end(self):
        self.assertEqual(run(read(*STATION), enter(0, 0), go(0), ask(0), go(0)), [[6], [0], [-2], [0], [1, P]])
        self.assertEqual(run(read(*STATION), enter(7, 1, 3), ask(7), go(7), go(7)), [[6], [0], [0], [1, Q], [1, B]])
        box = box_after(read(*STATION), enter(3, 1, 2))
        self.assertEqual((box.trains[3].ends, box.trains[3].length, box.trains[3].ahead), ([(E, 0)], 2, []))
        self.assertEqual(box.train_in, [None] * 5 + [3])

    def test_eight_trains_of_each_length(self):
        plan = read(*["plain S%d" % n for n in range(8)], *["border S%d.0" % n for n in range(8)])
        calls = [enter(n, n, 1 + n % 3) for n in range(8)]
        self.assertEqual(run(plan, *calls), [[8]] + [[0]] * 8)

    def test_minus_1_train_above_7_or_length_not_1_to_3(self):
        before = (read(*STATION),)
        for call in (enter(8, 0), enter(BIG, 0), enter(0, 0, 0), enter(0, 0, 4), enter(0, 0, BIG)):
            self.assert_refused(before, call, [-1])

    def test_minus_4_no_such_border(self):
        for border in (2, 3, BIG):
            self.assert_refused((read(*STATION),), enter(0, border), [-4])

    def test_minus_3_the_train_is_there_already(self):
        self.assert_refused((read(*STATION), enter(0, 0)), enter(0, 1), [-3])

    def test_minus_5_the_section_is_not_free(self):
        self.assert_refused((read(*STATION), enter(0, 0)), enter(1, 0), [-5])
        self.assert_refused((read(*STATION), ask(2)), enter(1, 0), [-5])

    def test_refusals_in_their_order(self):
        before = (read(*STATION), enter(0, 0))
        self.assert_refused(before, enter(8, 9, 1), [-1])
        self.assert_refused(before, enter(0, 9, 4), [-1])
        self.assert_refused(before, enter(0, 0, 4), [-1])
        self.assert_refused(before, enter(0, 9, 1), [-4])
        self.assert_refused(before, enter(0, 0, 1), [-3])


class Ask(Calls):
    def test_a_route_is_set_and_its_sections_locked(self):
        box = box_after(read(*STATION), ask(1))
        self.assertEqual(box.locked_for, [None, 1, None, 1, None, None])
        self.assertEqual(box.lies, [1, 2, 1, 1, 1, 1])

    def test_routes_without_a_section_in_common_stand_beside_one_another(self):
        self.assertEqual(run(read(*STATION), ask(0), ask(7)), [[6], [0], [0]])

    def test_minus_4_there_is_no_such_route(self):
        for route in (8, 9, BIG):
            self.assert_refused((read(*STATION),), ask(route), [-4])

    def test_minus_5_the_first_section_that_is_not_free(self):
        self.assert_refused((read(*STATION), ask(0)), ask(0), [-5, P, 1])
        self.assert_refused((read(*STATION), ask(0)), ask(1), [-5, P, 1])
        self.assert_refused((read(*STATION), ask(0)), ask(6), [-5, A, 1])
        self.assert_refused((read(*STATION), enter(0, 0)), ask(2), [-5, W, 2])
        self.assert_refused((read(*STATION), enter(0, 0), ask(0), go(0)), ask(1), [-5, P, 2])

    def test_the_first_in_the_routes_order_not_the_lowest(self):
        before = (read(*STATION), enter(0, 0), ask(0), go(0), go(0), ask(7))
        self.assert_refused(before, ask(6), [-5, Q, 1])
        self.assert_refused((read(*STATION), enter(0, 0), ask(1)), ask(2), [-5, P, 1])
        self.assert_refused((read(*LONG), enter(0, 1)), ask(0), [-5, E, 2])

    def test_no_point_is_laid_by_a_route_that_is_refused(self):
        before = (read(*LONG), enter(0, 1))
        self.assert_refused(before, ask(1), [-5, E, 2])
        self.assertEqual(box_after(*before, ask(1)).lies, [1] * 6)


class Cancel(Calls):
    def test_its_sections_are_locked_no_more(self):
        self.assertEqual(run(read(*STATION), ask(1), cancel(1), ask(0), enter(0, 0), go(0)),
                         [[6], [0], [0], [0], [0], [1, P]])
        box = box_after(read(*STATION), ask(1), ask(6), cancel(1))
        self.assertEqual(box.locked_for, [None, None, 6, None, 6, None])

    def test_the_points_stay_as_they_lie(self):
        self.assertEqual(box_after(read(*STATION), ask(1), cancel(1)).lies, [1, 2, 1, 1, 1, 1])

    def test_a_signal_shows_it_no_more(self):
        self.assertEqual(last(read(*STATION), enter(0, 0), ask(1), cancel(1), go(0)), [-2])

    def test_minus_4_there_is_no_such_route(self):
        for route in (8, BIG):
            self.assert_refused((read(*STATION), ask(0)), cancel(route), [-4])

    def test_minus_3_not_all_of_its_sections_are_locked_for_it(self):
        self.assert_refused((read(*STATION),), cancel(0), [-3])
        self.assert_refused((read(*STATION), ask(0)), cancel(1), [-3])
        self.assert_refused((read(*STATION), ask(0), cancel(0)), cancel(0), [-3])
        # Routes 2 and 4 have the same sections, but are locked each for itself.
        self.assert_refused((read(*STATION), ask(2)), cancel(4), [-3])

    def test_minus_3_from_the_first_step_of_a_train_by_it_on(self):
        before = (read(*LONG), enter(0, 0), ask(0))
        self.assertEqual(last(*before, cancel(0)), [0])
        for steps in range(1, 5):
            self.assert_refused(before + (go(0),) * steps, cancel(0), [-3])


class Throw(Calls):
    def test_the_point_lies_the_other_way(self):
        for count in range(5):
            box = box_after(read(*STATION), *[throw(P)] * count)
            self.assertEqual(box.lies, [1, 1 + count % 2, 1, 1, 1, 1])
        self.assertEqual(run(read(*STATION), throw(P), throw(Q), throw(P)), [[6], [0], [0], [0]])

    def test_minus_4_no_such_section_or_no_point(self):
        for section in (W, A, B, E, 6, 7, BIG):
            self.assert_refused((read(*STATION),), throw(section), [-4])
        self.assert_refused((read("cross X"),), throw(0), [-4])

    def test_minus_4_comes_before_minus_5(self):
        self.assert_refused((read(*STATION), enter(0, 0), ask(0)), throw(W), [-4])
        self.assert_refused((read(*STATION), enter(0, 0), ask(0)), throw(A), [-4])

    def test_minus_5_it_is_not_free(self):
        self.assert_refused((read(*STATION), ask(0)), throw(P), [-5])
        self.assert_refused((read(*STATION), enter(0, 0), ask(0), go(0)), throw(P), [-5])
        self.assertEqual(last(read(*STATION), enter(0, 0), ask(0), go(0), go(0), throw(P)), [0])


class Go(Calls):
    def test_a_train_goes_by_its_signals_and_leaves_by_a_border(self):
        calls = (enter(0, 0), ask(1), go(0), go(0), go(0), ask(5), go(0), go(0), go(0), go(0), enter(0, 1))
        self.assertEqual(run(read(*STATION), *calls), [[6], [0], [0], [1, P], [1, B], [-2], [0], [1, Q], [1, E], [0],
                                                       [-4], [0]])

    def test_it_heads_for_the_end_by_which_its_route_leaves(self):
        box = box_after(read(*LONG), enter(0, 1), enter(1, 0, 3))
        self.assertEqual(box.trains[0].ends, [(E, 0)])
        box = box_after(read(*LONG), enter(1, 0, 3), ask(1), go(1), go(1))
        self.assertEqual(box.trains[1].ends, [(B, 1), (P, 2), (W, 1)])
        self.assertEqual(box.trains[1].ahead, [(Q, 0), (E, 1)])

    def test_a_train_that_leaves_by_the_border_it_did_not_come_by(self):
        self.assertEqual(run(read("plain A", "border A.0", "border A.1"), enter(0, 1), go(0), enter(1, 0), go(1)),
                         [[1], [0], [0], [0], [0]])

    def test_a_train_is_in_as_many_sections_as_its_length_at_most(self):
        for length in (1, 2, 3):
            before = [read(*LONG), enter(0, 0, length), ask(0)]
            road = [W, P, A, Q, E]
            for steps in range(5):
                box = box_after(*before, *[go(0)] * steps)
                expected = road[max(0, steps + 1 - length):steps + 1][::-1]
                self.assertEqual([end[0] for end in box.trains[0].ends], expected)
                self.assertEqual([n for n in range(6) if box.train_in[n] == 0], sorted(expected))
                self.assertEqual([n for n in range(6) if box.locked_for[n] is not None], sorted(road[steps + 1:])
                                 if steps else sorted(road[1:]))

    def test_a_long_train_holds_the_sections_behind_it(self):
        start = (read(*LONG), enter(0, 0, 3), ask(0), go(0), go(0))
        self.assertEqual(last(*start, enter(1, 0)), [-5])
        self.assertEqual(last(*start, throw(P)), [-5])
        self.assertEqual(run(*start, go(0), enter(1, 0), throw(P), ask(1))[-3:], [[0], [-5], [-5, P, 2]])
        self.assertEqual(run(*start, go(0), go(0), throw(P), ask(1))[-2:], [[0], [-5, Q, 2]])

    def test_a_long_train_leaves_all_its_sections_at_a_border(self):
        start = (read(*LONG), enter(0, 0, 3), ask(0), go(0), go(0), go(0), go(0))
        box = box_after(*start, go(0))
        self.assertEqual((box.train_in, box.locked_for, box.trains), ([None] * 6, [None] * 6, {}))
        self.assertEqual(run(*start, ask(1), go(0), ask(1))[-3:], [[-5, Q, 2], [0], [0]])

    def test_a_signal_shows_a_route_until_a_train_takes_it(self):
        start = (read(*STATION), enter(0, 0), ask(0), go(0), go(0), enter(1, 0))
        self.assertEqual(run(*start, go(1), ask(1), go(1), go(1))[-4:], [[-2], [0], [1, P], [1, B]])

    def test_minus_4_there_is_no_such_train(self):
        for train in (1, 7, 8, BIG):
            self.assert_refused((read(*STATION), enter(0, 0)), go(train), [-4])

    def test_minus_2_the_signal_shows_no_route(self):
        self.assert_refused((read(*STATION), enter(0, 0)), go(0), [-2])
        # Another signal's route, though set, is not its own.
        self.assert_refused((read(*STATION), enter(0, 0), ask(3)), go(0), [-2])
        # A signal may have no route at all.
        self.assert_refused((read("plain A", "point P", "border A.0", "join A.1 P.0", "signal A.1"), enter(0, 0)),
                            go(0), [-2])

    def test_minus_3_there_is_no_signal_and_no_border(self):
        self.assert_refused((read("plain A", "border A.0"), enter(0, 0)), go(0), [-3])
        self.assert_refused((read("plain A", "plain B", "border A.0", "join A.1 B.0"), enter(0, 0)), go(0), [-3])
        # A signal at the end behind it is none for it.
        behind = ("plain A", "plain B", "border A.0", "join A.1 B.0", "join B.1 A.1")
        self.assertEqual(last(read(*behind)), [-6, 4, 4])
        plan = read("plain A", "plain B", "plain C", "border A.0", "join A.1 B.0", "join B.1 C.0", "signal A.1",
                    "signal C.0", "signal B.0")
        self.assert_refused((plan, enter(0, 0), ask(0), go(0), go(0)), go(0), [-3])


class Interface(unittest.TestCase):
    def test_counts_stand_before_what_is_answered(self):
        plan = [ord(sign) for sign in "plain A\nborder A.0\n"]
        calls = [0, len(plan)] + plan + [1, 0, 0, 1, 1, 0, 0, 1, 5, 0, 2, 0, 3, 0, 4, 0]
        self.assertEqual(answers(calls), [1, 1, 1, 0, 1, -3, 1, -3, 1, -4, 1, -4, 1, -4])

    def test_the_numbers_of_the_calls_that_turn_and_tell(self):
        calls = read(*STATION) + [1, 7, 0, 3, 2, 1, 5, 7, 5, 7]
        told = [1, 6, 1, 0, 1, 0, 2, 1, P, 2, 1, B]
        self.assertEqual(answers(calls), told)
        calls += [6, 7, 7, 7, 2, 6, 8, 0, 8, 2, 8, 5, 9, 1, 9, 4, 10, 5, 10, 0, 11, 8, 3]
        told += [1, 0, 6, 3, W, P, B, 0, 0, 1, 0, 2, 2, 7, 2, 1, 6, 1, 0, 1, 2, 1, 1, 2, 1, 6, 1, 0, 2, 1, 6, 2, 2, 7]
        self.assertEqual(answers(calls), told)

    def test_set_has_no_argument(self):
        self.assertEqual(answers([11]), [1, 0])
        self.assertEqual(answers([11, 11, 11]), [1, 0] * 3)
        self.assertEqual(answers([11, 7, 11, 11, 10, 11]), [1, 0, 1, -4, 1, 0, 1, -4])
        self.assertEqual(answers(read(*STATION) + [2, 7, 2, 0, 11, 2, 9]), [1, 6, 1, 0, 1, 0, 3, 2, 0, 7, 1, -4])

    def test_refusals_that_tell_more(self):
        faulty = [0, 1, 10]
        self.assertEqual(answers(faulty), [3, -6, 0, 1])
        calls = read(*STATION) + ask(0) + ask(0) + enter(0, 0) + go(0)
        self.assertEqual(answers(calls), [1, 6, 1, 0, 3, -5, P, 1, 1, 0, 2, 1, P])

    def test_an_empty_text_between_other_calls(self):
        self.assertEqual(answers([2, 0, 0, 0, 2, 0]), [1, -4, 1, 0, 1, -4])

    def test_bytes_that_look_like_calls_stay_a_text(self):
        self.assertEqual(answers([0, 3, 0, 5, 1, 5, 0]), [3, -6, 0, 1, 1, -4])

    def test_what_is_handed_in_is_not_changed(self):
        calls = read(*STATION) + enter(0, 0, 2) + ask(1) + go(0) + go(0) + cancel(1) + throw(P) + enter(1, 1) + turn(1)
        calls += tell_train(0) + tell_section(P) + tell_point(P) + tell_signal(0) + tell_set()
        kept = list(calls)
        answers(calls)
        self.assertEqual(calls, kept)

    def test_nothing_is_kept_from_one_time_to_the_next(self):
        calls = read(*STATION) + enter(0, 0, 2) + turn(0) + turn(0) + ask(1) + go(0) + throw(Q) + ask(6) + tell_set()
        first = answers(calls)
        first_again = list(first)
        second = answers(calls)
        self.assertEqual(first, second)
        second.append(0)
        self.assertEqual(first, first_again)
        other = ask(0) + go(0) + enter(0, 0) + turn(0) + tell_train(0) + tell_section(0) + tell_point(P)
        self.assertEqual(answers(other + tell_signal(0) + tell_set()), [1, -4] * 8 + [1, 0])

    def test_whole_numbers_alone_are_answered(self):
        calls = read(*STATION) + enter(0, 0) + ask(0) + ask(0) + go(0) + throw(Q) + cancel(0) + [0, 1, 65]
        calls += ask(7) + tell_train(0) + tell_section(P) + tell_section(A) + tell_section(W) + tell_point(P)
        calls += tell_signal(0) + tell_signal(5) + tell_set() + turn(0) + tell_train(1)
        told = answers(calls)
        self.assertIs(type(told), list)
        self.assertEqual({type(number) for number in told}, {int})

    def test_the_most_calls_and_the_longest_list(self):
        for call in (go(0), turn(0), tell_train(0), tell_section(0), tell_point(0), tell_signal(0)):
            self.assertEqual(run(*[call] * 400), [[-4]] * 400)
        self.assertEqual(run(*[tell_set()] * 400), [[0]] * 400)
        self.assertEqual(run([0, 29000] + [10] * 29000), [[-2]])

    def test_every_call_answers_before_a_plan_is_read(self):
        calls = (enter(0, 0), ask(0), cancel(0), throw(0), go(0), turn(0), tell_train(0), tell_section(0),
                 tell_point(0), tell_signal(0))
        for plan in ((), (read(),)):
            self.assertEqual(run(*plan, *calls, tell_set())[len(plan):], [[-4]] * 10 + [[0]])
            self.assertEqual(run(*plan, enter(8, 0, 0), enter(0, 0, 4))[len(plan):], [[-1], [-1]])

    def test_every_call_answers_to_the_highest_number(self):
        for plan in ((), (read(*STATION), enter(0, 0), ask(0))):
            for number in range(2, 11):
                self.assertEqual(last(*plan, [number, BIG]), [-4])
            self.assertEqual(last(*plan, enter(BIG, BIG, BIG)), [-1])


if __name__ == "__main__":
    unittest.main()
