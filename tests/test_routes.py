"""Routes: through which ends they go, where they end, how they are numbered, what they need of points."""

import random
import unittest

from tests.helper import A, B, E, LONG, P, Q, STATION, W, ask, box_after, enter, go, last, read, run, throw


def routes(*lines):
    return [route.sections for route in box_after(read(*lines)).routes]


def needs(*lines):
    return [route.needs for route in box_after(read(*lines)).routes]


def random_plan(rng):
    """The lines of some plan, with few or many joins, borders and signals, in an order that is allowed."""
    kinds = {"S%d" % n: rng.choice(("plain", "plain", "point", "cross")) for n in range(rng.randint(1, 16))}
    ends = [(name, end) for name, kind in kinds.items() for end in range({"plain": 2, "point": 3, "cross": 4}[kind])]
    rng.shuffle(ends)
    lines = ["%s %s" % (kind, name) for name, kind in kinds.items()]
    joined = []
    for _ in range(rng.randint(0, len(ends) // 2)):
        joined += [ends.pop(), ends.pop()]
        lines.append("join %s.%d %s.%d" % (joined[-2] + joined[-1]))
    lines += ["border %s.%d" % end for end in ends if kinds[end[0]] == "plain" and rng.random() < 0.6]
    signals = [end for end in joined if kinds[end[0]] == "plain" and rng.random() < 0.7]
    return lines + ["signal %s.%d" % end for end in signals[:12]]


def routes_by_the_words(lines):
    """The routes of a plan, found anew from its lines by the document's words: each its signal's end and its ends."""
    words = [line.split() for line in lines]
    kinds = {word[1]: word[0] for word in words if word[0] in ("plain", "point", "cross")}
    order = list(kinds)

    def as_end(word):
        return (word[:-2], int(word[-1]))

    pairs = {}
    for word in words:
        if word[0] == "join":
            pairs[as_end(word[1])] = as_end(word[2])
            pairs[as_end(word[2])] = as_end(word[1])
    stops = [as_end(word[1]) for word in words if word[0] in ("border", "signal")]
    through = {
        "plain": {(0, 1), (1, 0)},
        "point": {(0, 1), (0, 2), (1, 0), (2, 0)},
        "cross": {(0, 1), (1, 0), (2, 3), (3, 2)},
    }

    def onward(end, seen):
        if end not in pairs or pairs[end][0] in seen:
            return []
        name, came = pairs[end]
        found = []
        for leaving in range(4):
            if (came, leaving) in through[kinds[name]]:
                here = (name, leaving)
                if kinds[name] == "plain" and (here in stops or here not in pairs):
                    found.append([here])
                else:
                    found += [[here] + rest for rest in onward(here, seen + [name])]
        return found

    signals = [as_end(word[1]) for word in words if word[0] == "signal"]
    signals.sort(key=lambda end: (order.index(end[0]), end[1]))

    def numbered(end):
        return (order.index(end[0]), end[1])

    return [(numbered(signal), [numbered(end) for end in way])
            for signal in signals for way in onward(signal, [signal[0]])]


class Routes(unittest.TestCase):
    def test_the_routes_of_a_station(self):
        self.assertEqual(routes(*STATION), [[P, A], [P, B], [P, W], [Q, E], [P, W], [Q, E], [Q, A], [Q, B]])

    def test_what_they_need_of_their_points(self):
        self.assertEqual(needs(*STATION), [[(P, 1)], [(P, 2)], [(P, 1)], [(Q, 1)], [(P, 2)], [(Q, 2)], [(Q, 1)],
                                           [(Q, 2)]])
        self.assertEqual(needs(*LONG), [[(P, 1), (Q, 1)], [(P, 2), (Q, 2)]])

    def test_a_route_goes_on_to_the_first_section_in_which_a_train_may_stop(self):
        self.assertEqual(routes(*LONG), [[P, A, Q, E], [P, B, Q, E]])
        # A signal for trains the other way is none to stop at.
        self.assertEqual(routes(*LONG, "signal A.0")[0], [P, A, Q, E])
        self.assertEqual(routes(*LONG, "signal A.1")[0], [P, A])

    def test_where_a_train_may_stop(self):
        told = ("plain A", "plain B", "plain C", "join A.1 B.0", "signal A.1")
        self.assertEqual(routes(*told), [[1]])
        self.assertEqual(routes(*told, "border B.1"), [[1]])
        self.assertEqual(routes(*told, "join B.1 C.0"), [[1, 2]])
        self.assertEqual(routes(*told, "join B.1 C.0", "signal B.1"), [[1], [2]])
        self.assertEqual(routes(*told, "join B.1 C.0", "signal B.0"), [[1, 2], [0]])

    def test_the_numbers_of_routes_hold_whatever_the_order_of_lines(self):
        told = [line for line in STATION if line.split()[0] in ("plain", "point")]
        joins = [line for line in STATION if line.startswith("join")]
        rest = [line for line in STATION if line.split()[0] in ("border", "signal")]
        swapped = ["join %s %s" % (line.split()[2], line.split()[1]) for line in joins]
        for lines in (told + joins[::-1] + rest[::-1], told + swapped + rest, told + swapped[::-1] + rest[::-1]):
            self.assertEqual(routes(*lines), routes(*STATION))

    def test_the_numbers_of_routes_follow_the_numbers_of_sections(self):
        moved = STATION[3:6] + STATION[0:3] + STATION[6:]
        # Now B 0, Q 1, E 2, W 3, P 4, A 5.
        self.assertEqual(routes(*moved), [[4, 3], [1, 2], [1, 5], [1, 0], [4, 5], [4, 0], [4, 3], [1, 2]])

    def test_where_routes_part_the_lower_end_comes_first(self):
        told = ("plain S", "point P", "point L", "point R", "plain A", "plain B", "plain C", "plain D",
                "join S.1 P.0", "join P.2 R.0", "join P.1 L.0", "join L.1 D.0", "join L.2 C.0", "join R.1 B.0",
                "join R.2 A.0", "signal S.1")
        self.assertEqual(routes(*told), [[1, 2, 7], [1, 2, 6], [1, 3, 5], [1, 3, 4]])
        self.assertEqual(needs(*told), [[(1, 1), (2, 1)], [(1, 1), (2, 2)], [(1, 2), (3, 1)], [(1, 2), (3, 2)]])

    def test_a_cross_leads_between_0_and_1_and_between_2_and_3(self):
        told = ("plain A", "plain B", "plain C", "plain D", "cross X", "join A.1 X.0", "join X.1 B.0",
                "join C.1 X.2", "join X.3 D.0", "signal A.1", "signal B.0", "signal C.1", "signal D.0")
        self.assertEqual(routes(*told), [[4, 1], [4, 0], [4, 3], [4, 2]])
        self.assertEqual(needs(*told), [[], [], [], []])

    def test_a_way_that_ends_in_a_point_or_a_cross_is_no_route(self):
        told = ("plain A", "plain B", "point P", "cross X", "signal A.1")
        self.assertEqual(routes(*told[:4], "join A.1 P.0", told[4]), [])
        self.assertEqual(routes(*told[:4], "join A.1 P.0", "join P.2 B.1", told[4]), [[2, 1]])
        self.assertEqual(routes(*told[:4], "join A.1 P.1", told[4]), [])
        self.assertEqual(routes(*told[:4], "join A.1 P.2", "join P.1 B.0", told[4]), [])
        self.assertEqual(routes(*told[:4], "join A.1 X.3", told[4]), [])
        self.assertEqual(routes(*told[:4], "join A.1 X.3", "join X.0 B.0", told[4]), [])
        self.assertEqual(routes(*told[:4], "join A.1 X.3", "join X.2 B.0", told[4]), [[3, 1]])

    def test_a_route_comes_through_no_section_twice_nor_through_the_signals(self):
        self.assertEqual(routes("plain A", "join A.0 A.1", "signal A.1"), [])
        self.assertEqual(routes("plain A", "plain B", "join A.1 B.0", "join B.1 A.0", "signal A.1"), [])
        # A loop behind a point leads back through the point.
        loop = ("plain A", "point P", "plain L", "join A.1 P.0", "join P.1 L.0", "join L.1 P.2", "signal A.1")
        self.assertEqual(routes(*loop), [])
        self.assertEqual(routes(*loop, "signal L.1"), [[1, 2], [1, 0]])
        # A cross, too, is one section.
        crossed = ("plain A", "cross X", "plain L", "plain B", "join A.1 X.0", "join X.1 L.0", "join L.1 X.2",
                   "join X.3 B.0", "signal A.1")
        self.assertEqual(routes(*crossed), [])
        self.assertEqual(routes(*crossed, "signal L.1"), [[1, 2], [1, 3]])

    def test_a_plan_may_have_no_routes(self):
        self.assertEqual(last(read("plain A", "plain B", "join A.1 B.0"), ask(0)), [-4])

    def test_routes_as_the_words_tell_them_of_many_plans(self):
        rng = random.Random(11)
        seen = 0
        for _ in range(600):
            lines = random_plan(rng)
            expected = routes_by_the_words(lines)
            if len(expected) > 64:
                self.assertEqual(run(read(*lines)), [[-9]])
                continue
            box = box_after(read(*lines))
            self.assertEqual([(route.signal_end, route.ends) for route in box.routes], expected, lines)
            seen += len(expected)
        self.assertGreater(seen, 600)

    def test_trains_come_through_the_sections_of_a_route_in_order(self):
        for route, by in ((0, A), (1, B)):
            told = run(read(*LONG), enter(0, 0), ask(route), go(0), go(0), go(0), go(0), go(0))
            self.assertEqual(told, [[6], [0], [0], [1, P], [1, by], [1, Q], [1, E], [0]])

    def test_points_are_laid_as_a_route_needs(self):
        for before in ((), (throw(P),), (throw(Q),), (throw(P), throw(Q))):
            self.assertEqual(box_after(read(*LONG), *before, ask(0)).lies, [1, 1, 1, 1, 1, 1])
            self.assertEqual(box_after(read(*LONG), *before, ask(1)).lies, [1, 2, 1, 1, 2, 1])


if __name__ == "__main__":
    unittest.main()
