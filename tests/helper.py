"""What the tests share: calls as lists of numbers, answers parted call by call, yards, a box's whole state."""

import unittest

from yardbox.box import Box, answer_to, answers


def bytes_of(*lines):
    return list("".join(line + "\n" for line in lines).encode())


def read_bytes(text):
    return [0, len(text)] + list(text)


def read(*lines):
    return read_bytes(bytes_of(*lines))


def enter(train, border, length=1):
    return [1, train, border, length]


def ask(route):
    return [2, route]


def cancel(route):
    return [3, route]


def throw(section):
    return [4, section]


def go(train):
    return [5, train]


def turn(train):
    return [6, train]


def tell_train(number):
    return [7, number]


def tell_section(number):
    return [8, number]


def tell_point(section):
    return [9, section]


def tell_signal(number):
    return [10, number]


def tell_set():
    return [11]


def parted_answers(numbers):
    told = []
    place = 0
    while place < len(numbers):
        behind = place + 1 + numbers[place]
        told.append(numbers[place + 1:behind])
        place = behind
    return told


def run(*calls):
    """The answers to these calls on one new object, a list for each call."""
    return parted_answers(answers([number for call in calls for number in call]))


def last(*calls):
    return run(*calls)[-1]


def call_box(box, call):
    """The answer to one call on this very box, so that its state can be looked at between calls."""
    return answer_to(box, call[0], call[2:] if call[0] == 0 else call[1:])


def box_after(*calls):
    box = Box()
    for call in calls:
        call_box(box, call)
    return box


def state(box):
    """All that a box keeps, as a text that no later call can change."""
    return repr((
        box.plan.kinds, box.plan.numbers, box.plan.joined, box.plan.borders, box.plan.signals,
        [(route.signal_end, route.ends, route.sections, route.needs) for route in box.routes],
        box.locked_for, box.train_in, box.lies,
        [(number, train.length, train.ends, train.ahead) for number, train in sorted(box.trains.items())],
    ))


# Every telling call, from the lowest number to one above the highest that a plan may have.
TELLING = tuple(
    [tell_train(n) for n in range(9)] + [tell_section(n) for n in range(17)] + [tell_point(n) for n in range(17)]
    + [tell_signal(n) for n in range(13)] + [tell_set()])


def told_after(*calls):
    """All that a box tells of itself behind these calls."""
    return run(*calls, *TELLING)[len(calls):]


class Calls(unittest.TestCase):
    def assert_refused(self, before, call, answer):
        """The call is refused so, and leaves the box as it was."""
        self.assertEqual(last(*before, call), answer)
        self.assertEqual(told_after(*before, call), told_after(*before))
        self.assertEqual(state(box_after(*before, call)), state(box_after(*before)))


# Sections by number: W 0, P 1, A 2, B 3, Q 4, E 5. Borders: W.0, E.1.
# Signals: W.1 0, A.0 1, A.1 2, B.0 3, B.1 4, E.0 5.
# Routes: 0 P A, 1 P B, 2 P W (from A), 3 Q E (from A), 4 P W (from B), 5 Q E (from B), 6 Q A, 7 Q B.
W, P, A, B, Q, E = 0, 1, 2, 3, 4, 5
STATION = (
    "plain W", "point P", "plain A", "plain B", "point Q", "plain E",
    "join W.1 P.0", "join P.1 A.0", "join P.2 B.0", "join A.1 Q.1", "join B.1 Q.2", "join Q.0 E.0",
    "border W.0", "border E.1",
    "signal W.1", "signal A.0", "signal A.1", "signal B.0", "signal B.1", "signal E.0",
)

# One route of four sections: 0 from W through P, A, Q to E; route 1 goes by B in the place of A.
LONG = tuple(line for line in STATION if not line.startswith("signal")) + ("signal W.1",)

# A row of plain sections with signals both ways: A 0, B 1, C 2, D 3, E 4. Borders: A.0, E.1.
# Signals: A.1 0, B.0 1, B.1 2, C.0 3, C.1 4, D.0 5, D.1 6, E.0 7.
# Routes have one section each: 0 to B, 1 to A, 2 to C, 3 to B, 4 to D, 5 to C, 6 to E, 7 to D.
ROW = tuple("plain " + name for name in "ABCDE") + (
    "join A.1 B.0", "join B.1 C.0", "join C.1 D.0", "join D.1 E.0", "border A.0", "border E.1",
    "signal A.1", "signal B.0", "signal B.1", "signal C.0", "signal C.1", "signal D.0", "signal D.1", "signal E.0",
)

# A 0, B 1, C 2, D 3, X 4, P 5, F 6. Borders: A.0, B.1, C.0, D.1, F.1.
# Signals: A.1 0, B.0 1, C.1 2, D.0 3, F.0 4.
# Routes: 0 X B (from A), 1 X A, 2 X P D (from C), 3 X P F (from C), 4 P X C (from D), 5 P X C (from F).
CROSSING = (
    "plain A", "plain B", "plain C", "plain D", "cross X", "point P", "plain F",
    "join A.1 X.0", "join X.1 B.0", "join C.1 X.2", "join X.3 P.0", "join P.1 D.0", "join P.2 F.0",
    "border A.0", "border B.1", "border C.0", "border D.1", "border F.1",
    "signal A.1", "signal B.0", "signal C.1", "signal D.0", "signal F.0",
)
