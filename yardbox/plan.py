"""A plan: its sections, joins, borders and signals, read from a text, or that text's first fault.

An end is a tuple: its section's number and its digit. So ends compare in the order that numbers them.
"""

# A kind of section is told by how many ends it has.
PLAIN = 2
POINT = 3
CROSS = 4

MOST_SECTIONS = 16
MOST_SIGNALS = 12
LONGEST_NAME = 4

LINE_FEED = 10
BLANK = 32
FULL_STOP = 46
DIGIT_0 = 48
DIGIT_3 = 51
DIGIT_9 = 57
CAPITAL_A = 65
CAPITAL_Z = 90

NO_FAULT = 0
NO_SUCH_LINE = 1
NAME_IS_THERE = 2
NO_SUCH_END = 3
END_IS_TAKEN = 4
NOT_JOINED = 5
NOT_PLAIN = 6
TOO_MANY = 7


class Plan:
    # A plan without sections: what a text tells is added to it line by line.
    def __init__(self):
        self.kinds = []
        self.numbers = {}
        self.joined = {}
        self.borders = []
        self.signals = []

    # Whether a join or a border has this end already.
    def is_taken(self, end):
        return end in self.joined or end in self.borders

    def is_plain(self, end):
        return self.kinds[end[0]] == PLAIN

    # Whether a train that heads for this end may stop in its section.
    def may_stop(self, end):
        if not self.is_plain(end):
            return False
        return end in self.signals or end in self.borders or end not in self.joined


# Fills a plan without sections from a text. Gives back the first fault's line and kind, or nothing.
def fill_plan(plan, text):
    lines = parted(text, LINE_FEED)
    for number, line in enumerate(lines[:-1]):
        fault = add_line(plan, line)
        if fault != NO_FAULT:
            return [number, fault]
    # What stands behind the last line feed is a line that the text ends within.
    if lines[-1] != []:
        return [len(lines) - 1, NO_SUCH_LINE]
    plan.borders = sorted(plan.borders)
    plan.signals = sorted(plan.signals)
    return []


# The parts of a row of bytes before, between and behind the marks in it.
def parted(row, mark):
    parts = []
    part = []
    for byte in row:
        if byte == mark:
            parts.append(part)
            part = []
        else:
            part.append(byte)
    parts.append(part)
    return parts


# Adds what a line tells to the plan, if it has no fault. Gives back the fault's kind.
def add_line(plan, line):
    words = parted(line, BLANK)
    first = words[0]
    if len(words) == 3 and is_word(first, "join") and is_end(words[1]) and is_end(words[2]):
        return add_join(plan, find_end(plan, words[1]), find_end(plan, words[2]))
    if len(words) != 2:
        return NO_SUCH_LINE
    if is_word(first, "border") and is_end(words[1]):
        return add_border(plan, find_end(plan, words[1]))
    if is_word(first, "signal") and is_end(words[1]):
        return add_signal(plan, find_end(plan, words[1]))
    kind = section_kind(first)
    if kind is not None and is_name(words[1]):
        return add_section(plan, kind, tuple(words[1]))
    return NO_SUCH_LINE


def is_word(row, word):
    return row == [ord(sign) for sign in word]


def section_kind(row):
    if is_word(row, "plain"):
        return PLAIN
    if is_word(row, "point"):
        return POINT
    if is_word(row, "cross"):
        return CROSS
    return None


def is_name(row):
    if len(row) < 1 or len(row) > LONGEST_NAME:
        return False
    return is_capital(row[0]) and all([is_capital(byte) or is_digit(byte) for byte in row])


def is_capital(byte):
    return CAPITAL_A <= byte and byte <= CAPITAL_Z


def is_digit(byte):
    return DIGIT_0 <= byte and byte <= DIGIT_9


# Whether a word has an end's form. Whether there is such an end is another fault.
def is_end(row):
    if len(row) < 3 or row[-2] != FULL_STOP:
        return False
    return is_name(row[:-2]) and DIGIT_0 <= row[-1] and row[-1] <= DIGIT_3


# The end that a word of an end's form tells, or None if the plan has none such.
def find_end(plan, row):
    section = plan.numbers.get(tuple(row[:-2]))
    if section is None:
        return None
    digit = row[-1] - DIGIT_0
    if digit >= plan.kinds[section]:
        return None
    return (section, digit)


def add_section(plan, kind, name):
    if name in plan.numbers:
        return NAME_IS_THERE
    if len(plan.kinds) == MOST_SECTIONS:
        return TOO_MANY
    plan.numbers[name] = len(plan.kinds)
    plan.kinds.append(kind)
    return NO_FAULT


def add_join(plan, end, other):
    if end is None or other is None:
        return NO_SUCH_END
    if plan.is_taken(end) or plan.is_taken(other) or end == other:
        return END_IS_TAKEN
    plan.joined[end] = other
    plan.joined[other] = end
    return NO_FAULT


def add_border(plan, end):
    if end is None:
        return NO_SUCH_END
    if plan.is_taken(end):
        return END_IS_TAKEN
    if not plan.is_plain(end):
        return NOT_PLAIN
    plan.borders.append(end)
    return NO_FAULT


def add_signal(plan, end):
    if end is None:
        return NO_SUCH_END
    if end in plan.signals:
        return END_IS_TAKEN
    if end not in plan.joined:
        return NOT_JOINED
    if not plan.is_plain(end):
        return NOT_PLAIN
    if len(plan.signals) == MOST_SIGNALS:
        return TOO_MANY
    plan.signals.append(end)
    return NO_FAULT
