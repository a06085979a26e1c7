"""Yards: their texts, devices, links and turned texts."""

from yardsort.errors import NotYard

OUTSIDE = -1
MOST_DEVICES = 8
MOST_BRACKETS = 8
INS = {"s": (1,), "q": (1,), "d": (0, 1), "i": (1,), "o": (0, 1)}
OUTS = {"s": (1,), "q": (0,), "d": (0, 1), "i": (0, 1), "o": (1,)}
TURNED_KINDS = {"s": "s", "q": "q", "d": "d", "i": "o", "o": "i"}
BOUNDS = {"1": 1, "2": 2, "3": 3, "4": 4, "5": 5, "6": 6}
CLOSING = {"(": ")", "[": "]"}
NO_NUMBER = -1


class Reader:
    """Reads the text of a yard from left to right, up to its first fault.

    A part of a yard is a tuple: the letter, the number and no parts for a
    device; the bracket, no number and the parts for yards in brackets.
    """

    def __init__(self, text):
        self.text = text
        self.at = 0
        self.kinds = []
        self.bounds = []

    def whole(self):
        """Return the part that is the whole text."""
        part = self.part(0)
        if self.at < len(self.text):
            raise NotYard(self.at)
        return part

    def sign(self):
        """Return the next character, or the empty string at the end."""
        return self.text[self.at:self.at + 1]

    def part(self, opened):
        """Read a part inside of so many open brackets."""
        sign = self.sign()
        if sign in CLOSING and opened < MOST_BRACKETS:
            return self.group(sign, opened + 1)
        if sign in INS and len(self.kinds) < MOST_DEVICES:
            return self.device(sign)
        raise NotYard(self.at)

    def device(self, letter):
        """Read a device and its bound."""
        self.at += 1
        number = len(self.kinds)
        self.kinds.append(letter)
        self.bounds.append(self.bound())
        return (letter, number, ())

    def bound(self):
        """Read a bound, and return None if there is none."""
        sign = self.sign()
        if sign not in BOUNDS:
            return None
        self.at += 1
        return BOUNDS[sign]

    def group(self, bracket, opened):
        """Read two or more parts in brackets."""
        self.at += 1
        parts = [self.part(opened)]
        while len(parts) < 2 or self.sign() != CLOSING[bracket]:
            if self.sign() != " ":
                raise NotYard(self.at)
            self.at += 1
            parts.append(self.part(opened))
        self.at += 1
        return (bracket, NO_NUMBER, tuple(parts))


def _gates(part, end):
    """Return the entries of a part (`end` is 0) or its exits (`end` is -1)."""
    sign, number, parts = part
    if sign in INS:
        return [number]
    if sign == "(":
        return _gates(parts[end], end)
    gates = []
    for side in parts:
        gates.extend(_gates(side, end))
    return gates


def _links_inside(part):
    sign, _, parts = part
    links = []
    for inner in parts:
        links.extend(_links_inside(inner))
    if sign == "(":
        for one, other in zip(parts, parts[1:]):
            links.extend([(source, target) for source in _gates(one, -1) for target in _gates(other, 0)])
    return links


def _links_of(part):
    links = _links_inside(part)
    links.extend([(OUTSIDE, entry) for entry in _gates(part, 0)])
    links.extend([(way_out, OUTSIDE) for way_out in _gates(part, -1)])
    return sorted(links)


class Yard:
    """A yard that was read from its text."""

    def __init__(self, text):
        reader = Reader(text)
        part = reader.whole()
        self.text = text
        self.kinds = list(reader.kinds)
        self.bounds = list(reader.bounds)
        self.links = _links_of(part)

    def __len__(self):
        return len(self.kinds)

    def ins(self, device):
        """Return the ends at which wagons go into a device."""
        return list(INS[self.kinds[device]])

    def outs(self, device):
        """Return the ends at which wagons go out of a device."""
        return list(OUTS[self.kinds[device]])

    def is_bounded(self):
        """Return whether each device has a bound."""
        return None not in self.bounds

    def room(self, device, count):
        """Return whether a device may hold one wagon more than `count`."""
        bound = self.bounds[device]
        return bound is None or count < bound


def _turned_part(part):
    """Return the turned part, in which the devices keep their numbers."""
    sign, number, parts = part
    if sign in INS:
        return (TURNED_KINDS[sign], number, ())
    turned_parts = [_turned_part(inner) for inner in parts]
    if sign == "(":
        turned_parts = turned_parts[::-1]
    return (sign, number, tuple(turned_parts))


def _text_of(part, bounds):
    sign, number, parts = part
    if sign in INS:
        bound = bounds[number]
        return sign if bound is None else f"{sign}{bound}"
    inside = " ".join([_text_of(inner, bounds) for inner in parts])
    return f"{sign}{inside}{CLOSING[sign]}"


def _devices_in(part):
    """Return the numbers of the devices of a part, as they stand in it."""
    sign, number, parts = part
    if sign in INS:
        return [number]
    devices = []
    for inner in parts:
        devices.extend(_devices_in(inner))
    return devices


def turned(text):
    """Return the turned text of a yard."""
    reader = Reader(text)
    part = reader.whole()
    return _text_of(_turned_part(part), reader.bounds)


def turned_numbers(text):
    """Return for each device its number in the turned text."""
    order = _devices_in(_turned_part(Reader(text).whole()))
    return [order.index(device) for device in range(len(order))]
