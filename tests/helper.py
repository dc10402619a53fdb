"""What the tests share: calls as lists of numbers, answers parted call by call, a yard, a box's whole state."""

from yardbox.box import Box, answers


def bytes_of(*lines):
    return list("".join(line + "\n" for line in lines).encode())


def read_bytes(text):
    return [0, len(text)] + list(text)


def read(*lines):
    return read_bytes(bytes_of(*lines))


def enter(train, border, length=1):
    return [1, train, border, length]


def ask(route):
    return [2, route]


def cancel(route):
    return [3, route]


def throw(section):
    return [4, section]


def go(train):
    return [5, train]


def parted_answers(numbers):
    told = []
    place = 0
    while place < len(numbers):
        behind = place + 1 + numbers[place]
        told.append(numbers[place + 1:behind])
        place = behind
    return told


def run(*calls):
    """The answers to these calls on one new object, a list for each call."""
    return parted_answers(answers([number for call in calls for number in call]))


def last(*calls):
    return run(*calls)[-1]


def call_box(box, call):
    """The answer to one call on this very box, so that its state can be looked at between calls."""
    if call[0] == 0:
        return box.read(call[2:])
    names = (None, "enter", "ask", "cancel", "throw", "go")
    return getattr(box, names[call[0]])(*call[1:])


def box_after(*calls):
    box = Box()
    for call in calls:
        call_box(box, call)
    return box


def state(box):
    """All that a box keeps, as a text that no later call can change."""
    return repr((
        box.plan.kinds, box.plan.numbers, box.plan.joined, box.plan.borders, box.plan.signals,
        [(route.signal_end, route.ends, route.sections, route.needs) for route in box.routes],
        box.locked_for, box.train_in, box.lies,
        [(number, train.length, train.ends, train.ahead) for number, train in sorted(box.trains.items())],
    ))


# Sections by number: W 0, P 1, A 2, B 3, Q 4, E 5. Borders: W.0, E.1.
# Signals: W.1 0, A.0 1, A.1 2, B.0 3, B.1 4, E.0 5.
# Routes: 0 P A, 1 P B, 2 P W (from A), 3 Q E (from A), 4 P W (from B), 5 Q E (from B), 6 Q A, 7 Q B.
W, P, A, B, Q, E = 0, 1, 2, 3, 4, 5
STATION = (
    "plain W", "point P", "plain A", "plain B", "point Q", "plain E",
    "join W.1 P.0", "join P.1 A.0", "join P.2 B.0", "join A.1 Q.1", "join B.1 Q.2", "join Q.0 E.0",
    "border W.0", "border E.1",
    "signal W.1", "signal A.0", "signal A.1", "signal B.0", "signal B.1", "signal E.0",
)

# One route of four sections: 0 from W through P, A, Q to E; route 1 goes by B in the place of A.
LONG = tuple(line for line in STATION if not line.startswith("signal")) + ("signal W.1",)
