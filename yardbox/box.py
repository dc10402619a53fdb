"""The box: it reads a plan, lets trains enter, go and turn, sets and cancels routes, throws points, and tells."""

from yardbox.plan import POINT, Plan, fill_plan
from yardbox.routes import routes_of

READ = 0
ENTER = 1
ASK = 2
CANCEL = 3
THROW = 4
GO = 5
TURN = 6
TELL_TRAIN = 7
TELL_SECTION = 8
TELL_POINT = 9
TELL_SIGNAL = 10
TELL_SET = 11

LONGEST_TEXT = 1024
MOST_ROUTES = 64
HIGHEST_TRAIN = 7
LONGEST_TRAIN = 3

# How a point lies is told by the end to which its toe leads.
NORMAL = 1
REVERSE = 2

DONE = 0
CAME_IN = 1
FREE = 0
BY_LOCK = 1
BY_TRAIN = 2
SHOWS_NONE = 0
SHOWS_ONE = 1

OUT_OF_RANGE = -1
TEXT_TOO_LONG = -2
SHOWS_NO_ROUTE = -2
THERE_ALREADY = -3
NOT_SET = -3
NO_WAY_ON = -3
MAY_NOT_TURN = -3
NONE_SUCH = -4
NOT_FREE = -5
NO_PLAN = -6
TOO_MANY_ROUTES = -9


class Train:
    # For each section that it is in, the foremost first: the end that lies toward its front, which in the
    # foremost is that for which it heads. The sections ahead are told likewise, the next one first.
    def __init__(self, length, end):
        self.length = length
        self.ends = [end]
        self.ahead = []


class Box:
    def __init__(self):
        self.lay_out(Plan(), [])

    # Each section has the route that it is locked for or None, the train in it or None, and how it lies
    # (which tells something of points alone).
    def lay_out(self, plan, routes):
        self.plan = plan
        self.routes = routes
        self.locked_for = [None] * len(plan.kinds)
        self.train_in = [None] * len(plan.kinds)
        self.lies = [NORMAL] * len(plan.kinds)
        self.trains = {}

    def is_free(self, section):
        return self.locked_for[section] is None and self.train_in[section] is None

    def is_point(self, section):
        return section < len(self.plan.kinds) and self.plan.kinds[section] == POINT

    # Whether all of the route's sections are locked for it: then its signal shows it.
    def is_set(self, number):
        return all([self.locked_for[section] == number for section in self.routes[number].sections])

    # The number of the route that the signal at this end shows, or None.
    def shown_route(self, end):
        for number, route in enumerate(self.routes):
            if route.signal_end == end and self.is_set(number):
                return number
        return None

    def read(self, text):
        if len(text) > LONGEST_TEXT:
            return [TEXT_TOO_LONG]
        plan = Plan()
        fault = fill_plan(plan, text)
        if fault != []:
            return [NO_PLAN] + fault
        routes = routes_of(plan)
        if len(routes) > MOST_ROUTES:
            return [TOO_MANY_ROUTES]
        self.lay_out(plan, routes)
        return [len(plan.kinds)]

    def enter(self, number, border, length):
        if number > HIGHEST_TRAIN or length < 1 or length > LONGEST_TRAIN:
            return [OUT_OF_RANGE]
        if border >= len(self.plan.borders):
            return [NONE_SUCH]
        if number in self.trains:
            return [THERE_ALREADY]
        end = self.plan.borders[border]
        if not self.is_free(end[0]):
            return [NOT_FREE]
        # Borders are at plain sections alone, so the other end is 1 or 0.
        self.trains[number] = Train(length, (end[0], 1 - end[1]))
        self.train_in[end[0]] = number
        return [DONE]

    def ask(self, number):
        if number >= len(self.routes):
            return [NONE_SUCH]
        route = self.routes[number]
        for section in route.sections:
            if not self.is_free(section):
                return [NOT_FREE, section, BY_TRAIN if self.locked_for[section] is None else BY_LOCK]
        for section, lie in route.needs:
            self.lies[section] = lie
        for section in route.sections:
            self.locked_for[section] = number
        return [DONE]

    def cancel(self, number):
        if number >= len(self.routes):
            return [NONE_SUCH]
        if not self.is_set(number):
            return [NOT_SET]
        for section in self.routes[number].sections:
            self.locked_for[section] = None
        return [DONE]

    def throw(self, section):
        if not self.is_point(section):
            return [NONE_SUCH]
        if not self.is_free(section):
            return [NOT_FREE]
        self.lies[section] = REVERSE if self.lies[section] == NORMAL else NORMAL
        return [DONE]

    def go(self, number):
        if number not in self.trains:
            return [NONE_SUCH]
        train = self.trains[number]
        if len(train.ahead) > 0:
            return self.come_into_section(number)
        end = train.ends[0]
        if end in self.plan.borders:
            return self.leave_by_border(number)
        if end not in self.plan.signals:
            return [NO_WAY_ON]
        shown = self.shown_route(end)
        if shown is None:
            return [SHOWS_NO_ROUTE]
        train.ahead = list(self.routes[shown].ends)
        return self.come_into_section(number)

    # The train takes its next step ahead.
    def come_into_section(self, number):
        train = self.trains[number]
        end = train.ahead.pop(0)
        train.ends.insert(0, end)
        self.locked_for[end[0]] = None
        self.train_in[end[0]] = number
        if len(train.ends) > train.length:
            left = train.ends.pop()
            self.train_in[left[0]] = None
        return [CAME_IN, end[0]]

    def leave_by_border(self, number):
        train = self.trains.pop(number)
        for end in train.ends:
            self.train_in[end[0]] = None
        return [DONE]

    def turn(self, number):
        if number not in self.trains:
            return [NONE_SUCH]
        train = self.trains[number]
        if len(train.ahead) > 0 or not self.plan.is_plain(train.ends[-1]):
            return [MAY_NOT_TURN]
        train.ends = self.ends_come_in_by(train.ends)
        return [DONE]

    # For each section of a train whose last one is plain, the last one first: the end by which it came in there.
    def ends_come_in_by(self, ends):
        last = ends[-1]
        # What it came from may be left long since, but a plain section has just one other end.
        came_by = [(last[0], 1 - last[1])]
        for end in reversed(ends[1:]):
            came_by.append(self.plan.joined[end])
        return came_by

    def tell_train(self, number):
        if number not in self.trains:
            return [NONE_SUCH]
        train = self.trains[number]
        sections = [end[0] for end in train.ends]
        return [len(sections)] + sections + [train.ends[0][1], len(train.ahead)]

    def tell_section(self, section):
        if section >= len(self.plan.kinds):
            return [NONE_SUCH]
        if self.locked_for[section] is not None:
            return [BY_LOCK, self.locked_for[section]]
        if self.train_in[section] is not None:
            return [BY_TRAIN, self.train_in[section]]
        return [FREE]

    def tell_point(self, section):
        if not self.is_point(section):
            return [NONE_SUCH]
        return [self.lies[section]]

    def tell_signal(self, number):
        if number >= len(self.plan.signals):
            return [NONE_SUCH]
        shown = self.shown_route(self.plan.signals[number])
        if shown is None:
            return [SHOWS_NONE]
        return [SHOWS_ONE, shown]

    # A route is told as long as some section is locked for it, though a train has come into others of its own.
    def tell_set(self):
        locked = [number for number in range(len(self.routes)) if number in self.locked_for]
        return [len(locked)] + locked


# Answers the calls on one new box: for each, how many numbers are answered, then these.
def answers(calls):
    box = Box()
    told = []
    place = 0
    while place < len(calls):
        start = first_argument(calls, place)
        behind = start + argument_count(calls, place)
        answer = answer_to(box, calls[place], calls[start:behind])
        told.append(len(answer))
        told.extend(answer)
        place = behind
    return told


# A text has its length ahead of it; other arguments follow the call's number at once.
def first_argument(calls, place):
    return place + 2 if calls[place] == READ else place + 1


def argument_count(calls, place):
    call = calls[place]
    if call == READ:
        return calls[place + 1]
    if call == ENTER:
        return 3
    return 0 if call == TELL_SET else 1


def answer_to(box, call, arguments):
    if call == READ:
        return box.read(arguments)
    if call == ENTER:
        return box.enter(arguments[0], arguments[1], arguments[2])
    if call == ASK:
        return box.ask(arguments[0])
    if call == CANCEL:
        return box.cancel(arguments[0])
    if call == THROW:
        return box.throw(arguments[0])
    if call == GO:
        return box.go(arguments[0])
    if call == TURN:
        return box.turn(arguments[0])
    if call == TELL_TRAIN:
        return box.tell_train(arguments[0])
    if call == TELL_SECTION:
        return box.tell_section(arguments[0])
    if call == TELL_POINT:
        return box.tell_point(arguments[0])
    if call == TELL_SIGNAL:
        return box.tell_signal(arguments[0])
    # No number is left but that of set.
    return box.tell_set()
