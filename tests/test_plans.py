"""read: what a plan's text is, how its things are numbered, and the first fault of a text that is none."""

import unittest

from tests.helper import STATION, ask, box_after, bytes_of, enter, go, last, read, read_bytes, run, state


def sections(count):
    return ["plain S%d" % number for number in range(count)]


def ring(count):
    """A ring of plain sections, so that each of their ends is joined."""
    return sections(count) + ["join S%d.1 S%d.0" % (n, (n + 1) % count) for n in range(count)]


def twelve_signals():
    return ["signal S%d.%d" % (n, end) for n in range(6) for end in (0, 1)]


def ladder(rungs):
    """One signal with 2 ** rungs routes, by pairs of points that part and meet again."""
    lines = ["plain S", "plain E"]
    behind = "S.1"
    for n in range(rungs):
        lines += ["point P%d" % n, "point Q%d" % n, "join %s P%d.0" % (behind, n)]
        lines += ["join P%d.1 Q%d.1" % (n, n), "join P%d.2 Q%d.2" % (n, n)]
        behind = "Q%d.0" % n
    return lines + ["join %s E.0" % behind, "signal S.1"]


class Plans(unittest.TestCase):
    def test_a_plan_answers_how_many_sections_it_has(self):
        self.assertEqual(run(read(*STATION)), [[6]])
        self.assertEqual(run(read("plain A")), [[1]])
        self.assertEqual(run(read(*sections(16))), [[16]])

    def test_no_bytes_are_a_plan_without_sections(self):
        self.assertEqual(run(read_bytes([])), [[0]])
        self.assertEqual(run(read("plain A", "border A.0"), read_bytes([]), enter(0, 0)), [[1], [0], [-4]])

    def test_names_of_one_to_four_bytes(self):
        self.assertEqual(run(read("plain A", "point Z9", "cross AB0", "plain ZZZZ", "plain A999")), [[5]])

    def test_lines_may_stand_in_any_order_behind_what_they_speak_of(self):
        self.assertEqual(run(read("plain A", "border A.0", "point B", "join B.0 A.1", "signal A.1")), [[2]])

    def test_a_section_may_be_joined_to_itself(self):
        self.assertEqual(run(read("plain A", "join A.0 A.1", "signal A.1", "signal A.0")), [[1]])

    def test_twelve_signals_are_not_too_many(self):
        self.assertEqual(run(read(*ring(7), *twelve_signals())), [[7]])

    def test_borders_are_numbered_by_their_ends_whatever_the_order_of_lines(self):
        told = ["plain B", "plain A", "plain C"]
        ends = ["B.0", "B.1", "A.1", "C.0", "C.1"]
        for order in ((0, 1, 2, 3, 4), (4, 3, 2, 1, 0), (2, 4, 0, 3, 1)):
            plan = read(*told, *["border " + ends[n] for n in order])
            # A train by border 0 stands in B, and heads for border 1; so by 3 in C; A's other end is none.
            self.assertEqual(run(plan, enter(0, 0), enter(1, 1)), [[3], [0], [-5]])
            self.assertEqual(run(plan, enter(0, 2), go(0), enter(1, 3), enter(2, 4)), [[3], [0], [-3], [0], [-5]])
            self.assertEqual(run(plan, enter(0, 5)), [[3], [-4]])
            self.assertEqual(box_after(plan).plan.borders, [(0, 0), (0, 1), (1, 1), (2, 0), (2, 1)])

    def test_signals_are_numbered_by_their_ends_whatever_the_order_of_lines(self):
        signals = [line for line in STATION if line.startswith("signal")]
        others = [line for line in STATION if not line.startswith("signal")]
        for lines in (signals, signals[::-1], signals[3:] + signals[:3]):
            box = box_after(read(*others, *lines))
            self.assertEqual(box.plan.signals, [(0, 1), (2, 0), (2, 1), (3, 0), (3, 1), (5, 0)])
            self.assertEqual(state(box), state(box_after(read(*STATION))))

    def test_a_plan_is_the_boxs_then_and_all_is_as_at_first(self):
        used = box_after(read(*STATION), enter(0, 0, 2), ask(1), go(0), ask(3), enter(1, 1), read(*STATION))
        self.assertEqual(state(used), state(box_after(read(*STATION))))
        calls = (read(*STATION), enter(0, 0), ask(1), read(*STATION), ask(0), go(0), enter(0, 0))
        self.assertEqual(run(*calls), [[6], [0], [0], [6], [0], [-4], [0]])

    def test_an_object_is_new_with_a_plan_without_sections(self):
        self.assertEqual(run(enter(0, 0), ask(0), [3, 0], [4, 0], go(0)), [[-4]] * 5)


class Faults(unittest.TestCase):
    def assert_fault(self, lines, line, kind):
        self.assertEqual(last(read(*lines)), [-6, line, kind], lines)

    def test_kind_1_no_such_line(self):
        before = ["plain A", "plain B"]
        for wrong in (
            "", " ", "plain", "plain ", "plain  C", " plain C", "plain C ", "plain C D", "Plain C", "plains C",
            "plai C", "plain c", "plain 1C", "plain CCCCC", "plain C-", "plain C.0", "plain \tC", "plain C\r",
            "join A.0", "join A.0 ", "join A.0 B.0 ", "join A.0  B.0", "join A.0 B.0 A.1", "join A B", "joint A.0 B.0",
            "join A.4 B.0", "join A.0 B.9", "join A.0 B.00", "join A.0 B.", "join A.0 .0", "join A0 B.0", "join a.0 B.0",
            "join AAAAA.0 B.0", "join A.0,B.0", "border", "border A", "border A.4", "border A.0 B.0", "border A:0",
            "border A.a", "border A.:", "border A./", "signal", "signal A", "signal A.4", "signal A.1 ", "signal .1",
            "signal A..1", "point", "cross A.0", "# plain C", "plain C\x00", "plain \xc4", "plain [", "plain @",
            "plain C:", "plain C/", "A.0", "section C",
        ):
            self.assert_fault(before + [wrong], 2, 1)
            self.assert_fault([wrong] + before, 0, 1)

    def test_kind_1_a_text_that_ends_within_a_line(self):
        for text, line in (("plain A", 0), ("p", 0), (" ", 0), ("plain A\nplain B", 1), ("plain A\nplain A", 1),
                           ("plain A\nborder B.0", 1), ("plain A\n\x00", 1)):
            self.assertEqual(run(read_bytes(text.encode())), [[-6, line, 1]], text)

    def test_nothing_stands_behind_a_last_line_feed(self):
        self.assertEqual(run(read_bytes(b"plain A\n")), [[1]])
        self.assertEqual(run(read_bytes(b"plain A\n\n")), [[-6, 1, 1]])
        self.assertEqual(run(read_bytes(b"\n")), [[-6, 0, 1]])

    def test_bytes_that_no_line_holds(self):
        for byte in (0, 13, 127, 128, 255):
            self.assertEqual(run(read_bytes([byte, 10])), [[-6, 0, 1]])

    def test_kind_2_a_section_of_that_name_is_there(self):
        for kind in ("plain", "point", "cross"):
            self.assert_fault(["plain A", "plain B", kind + " A"], 2, 2)
        self.assertEqual(run(read("plain A", "plain AA", "plain A0")), [[3]])

    def test_kind_3_no_such_section(self):
        for wrong in ("join A.0 B.0", "join B.0 A.0", "border B.0", "signal B.0", "border AA.0"):
            self.assert_fault(["plain A", wrong, "plain B"], 1, 3)

    def test_kind_3_no_such_end(self):
        told = ["plain A", "point P", "cross X", "plain B"]
        for end in ("A.2", "A.3", "P.3"):
            for wrong in ("join %s B.0", "join B.0 %s", "border %s", "signal %s"):
                self.assert_fault(told + [wrong % end], 4, 3)
        self.assertEqual(run(read(*told, "join P.2 X.3", "join X.2 A.1")), [[4]])

    def test_kind_4_the_end_is_joined_or_a_border_already(self):
        told = ["plain A", "plain B", "join A.1 B.0", "border A.0"]
        for wrong in ("join A.1 B.1", "join B.1 A.1", "join A.1 B.0", "join B.0 A.1", "join A.0 B.1", "join B.1 A.0",
                      "border A.1", "border B.0", "border A.0"):
            self.assert_fault(told + [wrong], 4, 4)

    def test_kind_4_the_end_has_a_signal(self):
        self.assert_fault(["plain A", "plain B", "join A.1 B.0", "signal A.1", "signal B.0", "signal A.1"], 5, 4)
        self.assertEqual(run(read("plain A", "plain B", "join A.1 B.0", "signal A.1", "signal B.0")), [[2]])

    def test_kind_4_the_two_are_one_end(self):
        self.assert_fault(["plain A", "join A.1 A.1"], 1, 4)

    def test_kind_5_the_signals_end_is_not_joined(self):
        self.assert_fault(["plain A", "signal A.1"], 1, 5)
        self.assert_fault(["plain A", "border A.1", "signal A.1"], 2, 5)
        self.assert_fault(["plain A", "plain B", "join A.0 B.0", "signal A.1"], 3, 5)
        self.assert_fault(["plain A", "plain B", "signal A.1", "join A.1 B.0"], 2, 5)

    def test_kind_6_the_section_is_not_plain(self):
        for kind, ends in (("point", (0, 1, 2)), ("cross", (0, 1, 2, 3))):
            for end in ends:
                self.assert_fault([kind + " X", "border X.%d" % end], 1, 6)
                self.assert_fault(["plain A", kind + " X", "join A.0 X.%d" % end, "signal X.%d" % end], 3, 6)

    def test_kind_7_the_17th_section(self):
        for kind in ("plain", "point", "cross"):
            self.assert_fault(sections(16) + [kind + " X"], 16, 7)

    def test_kind_7_the_13th_signal(self):
        self.assert_fault(ring(7) + twelve_signals() + ["signal S6.0"], 26, 7)

    def test_the_lowest_kind_where_several_are_so(self):
        full = sections(16)
        self.assert_fault(full + ["plain S3"], 16, 2)
        self.assert_fault(full + ["plain s"], 16, 1)
        self.assert_fault(["plain A", "plain B", "join A.0 B.0", "join A.0 C.0"], 3, 3)
        self.assert_fault(["plain A", "plain B", "join A.0 B.0", "join A.0 B.3"], 3, 3)
        self.assert_fault(["plain A", "join A.2 A.2"], 1, 3)
        self.assert_fault(["plain A", "join B.0 B.0"], 1, 3)
        self.assert_fault(["plain A", "point P", "join A.0 P.0", "border P.0"], 3, 4)
        self.assert_fault(["point P", "signal P.0"], 1, 5)
        signals = ring(7)[:7] + ["point P", "join P.0 S6.1"] + ring(7)[7:-1] + ["plain T", "join T.1 S0.0"]
        signals += twelve_signals()
        count = len(signals)
        for wrong, kind in (("signal S9.0", 3), ("signal S6.2", 3), ("signal S2.0", 4), ("signal T.0", 5),
                            ("signal P.1", 5), ("signal P.0", 6), ("signal S6.1", 7), ("signal S6.4", 1)):
            self.assert_fault(signals + [wrong], count, kind)

    def test_the_first_line_that_is_wrong(self):
        self.assert_fault(["plain A", "border A.3", "plain A", "nonsense"], 1, 3)
        self.assert_fault(sections(16) + ["plain T", "nonsense"], 16, 7)
        self.assertEqual(run(read_bytes(b"plain A\nplain A\nplain")), [[-6, 1, 2]])


class Limits(unittest.TestCase):
    def test_more_than_1024_bytes(self):
        self.assertEqual(run(read_bytes([10] * 1024)), [[-6, 0, 1]])
        self.assertEqual(run(read_bytes([10] * 1025)), [[-2]])
        self.assertEqual(run(read_bytes(bytes_of("plain A") * 128)), [[-6, 1, 2]])
        self.assertEqual(run(read_bytes(bytes_of("plain A") * 128 + [10])), [[-2]])
        self.assertEqual(run(read_bytes([65] * 4000), enter(0, 0)), [[-2], [-4]])

    def test_more_than_64_routes(self):
        self.assertEqual(run(read(*ladder(6)), ask(63), ask(64)), [[14], [0], [-4]])
        one_more = ["plain X", "plain Y", "join X.1 Y.0", "signal X.1"]
        self.assertEqual(run(read(*ladder(6), *one_more)), [[-9]])
        self.assertEqual(run(read(*ladder(6)[:-1], *one_more), ask(0), ask(1)), [[16], [0], [-4]])

    def test_a_fault_is_looked_at_before_the_routes(self):
        lines = ladder(7)
        self.assertEqual(run(read(*lines)), [[-9]])
        self.assertEqual(run(read(*lines, "signal S.1")), [[-6, len(lines), 4]])

    def test_what_is_refused_changes_nothing(self):
        before = (read(*STATION), enter(0, 0, 2), ask(1), go(0), ask(6), enter(1, 1))
        kept = state(box_after(*before))
        for refused in (read_bytes([10] * 1025), read("plain A", "plain A"), read("plain A", "border A.0", "x"),
                        read_bytes(b"plain A"), read(*ladder(7))):
            self.assertLess(last(*before, refused)[0], 0)
            self.assertEqual(state(box_after(*before, refused)), kept)
            self.assertEqual(run(*before, refused, go(0), go(1))[-2:], [[1, 3], [1, 4]])


if __name__ == "__main__":
    unittest.main()
