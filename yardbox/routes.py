"""The routes of a plan, in the order that numbers them, and what they need of their points."""

from yardbox.plan import POINT


class Route:
    # For each section of the route, in order: the end by which it leaves that, or in the last one heads for.
    def __init__(self, signal_end, ends, needs):
        self.signal_end = signal_end
        self.ends = ends
        self.sections = [end[0] for end in ends]
        self.needs = needs


def routes_of(plan):
    routes = []
    for signal_end in plan.signals:
        for way in ways_from(plan, signal_end):
            routes.append(Route(signal_end, way[1:], needs_of(plan, way)))
    return routes


# The ways that are routes. A way is the signal's end, then the end by which each further section is left.
def ways_from(plan, signal_end):
    found = []
    waiting = [[signal_end]]
    while len(waiting) > 0:
        way = waiting.pop()
        if len(way) > 1 and plan.may_stop(way[-1]):
            found.append(way)
        else:
            # The lowest end is laid on top, since its ways are numbered first.
            for end in reversed(ends_onward(plan, way)):
                waiting.append(way + [end])
    return found


# The ends by which a way may leave the section that it comes into next, rising.
def ends_onward(plan, way):
    came_by = plan.joined.get(way[-1])
    if came_by is None:
        return []
    section = came_by[0]
    if section in [end[0] for end in way]:
        return []
    return [(section, digit) for digit in digits_through(plan.kinds[section], came_by[1])]


def digits_through(kind, digit):
    if kind == POINT:
        return [1, 2] if digit == 0 else [0]
    # Plain sections and crosses lead from 0 to 1 and from 2 to 3, and back.
    return [digit + 1] if digit % 2 == 0 else [digit - 1]


# Each point of a way, and how it must lie: as the one of its two ends that is not the toe.
def needs_of(plan, way):
    needs = []
    for place in range(1, len(way)):
        section = way[place][0]
        if plan.kinds[section] == POINT:
            came_by = plan.joined[way[place - 1]]
            needs.append((section, max(came_by[1], way[place][1])))
    return needs
