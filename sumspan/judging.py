"""Nets run by a rule of each kind, and judged for every rule of a kind at once."""

from sumspan.bounds import is_whole
from sumspan.errors import BadKind, BadRow
from sumspan.nets import look_net, outs_by


def joined(one, other):
    return one + other


def greater(one, other):
    return max(one, other)


def span_joined(one, other):
    # An out that is right holds a span of things in order, and so does all that it is made of:
    # what is no span can be None for good, however long it would be.
    if one is None or other is None or one[1] != other[0]:
        return None
    return (one[0], other[1])


def apart_joined(one, other):
    # A thing that is told twice stays so in all that is made of it.
    if one is None or other is None or one & other:
        return None
    return one | other


def either_joined(one, other):
    return one | other


RULES = {"any": joined, "commuting": joined, "greatest": greater}
TRACES = {"any": span_joined, "commuting": apart_joined, "greatest": either_joined}


def look_kind(kind):
    if kind not in RULES:
        raise BadKind("a kind is any, commuting or greatest")


def is_thing(kind, value):
    if kind == "any":
        return isinstance(value, str)
    return is_whole(value)


def look_row(wide, kind, row):
    if not isinstance(row, list) or len(row) != wide:
        raise BadRow("a row is a list with one thing for each of the net")
    for place, thing in enumerate(row):
        if not is_thing(kind, thing):
            raise BadRow(f"thing {place} of the row is not of its kind")


def run(net, kind, row):
    look_net(net)
    look_kind(kind)
    look_row(net[0], kind, row)
    return outs_by(net, row, RULES[kind])


def plain(kind, row):
    look_kind(kind)
    return in_line(row, RULES[kind])


def in_line(row, together):
    sums = row[:1]
    for thing in row[1:]:
        sums.append(together(sums[-1], thing))
    return sums


def judged(net, kind):
    look_net(net)
    look_kind(kind)
    traces = first_traces(net[0], kind)
    due = in_line(traces, TRACES[kind])
    for place, trace in enumerate(outs_by(net, traces, TRACES[kind])):
        if trace != due[place]:
            return ("wrong", place, showing_row(net, kind, place))
    return ("right",)


def first_traces(wide, kind):
    if kind == "any":
        return [(thing, thing + 1) for thing in range(wide)]
    return [1 << thing for thing in range(wide)]


def showing_row(net, kind, place):
    if kind == "any":
        return showing_texts(net, place)
    return showing_numbers(net, kind, place)


def alone(wide, thing):
    return [1 if other == thing else 0 for other in range(wide)]


def showing_numbers(net, kind, place):
    together = RULES[kind]
    rows = [alone(net[0], thing) for thing in range(net[0])]
    shown = [row for row in rows if outs_by(net, row, together)[place] != in_line(row, together)[place]]
    return shown[0]


def showing_texts(net, place):
    wide = net[0]
    counts = [outs_by(net, alone(wide, thing), joined) for thing in range(wide)]
    strays = [[thing] for thing in range(wide) if counts[thing][place] != (1 if thing <= place else 0)]
    found = strays or turned_pairs(net, place)
    # A net can tell a thing more often than any text could hold: the row that makes the shortest outs
    # can be run, if one of those found can.
    best = min(found, key=lambda things: sum([sum(counts[thing]) for thing in things]))
    row = [""] * wide
    for letter, thing in zip("ab", best):
        row[thing] = letter
    return row


def turned_pairs(net, place):
    order = told_order(net, place)
    pairs = []
    for late, thing in enumerate(order):
        pairs.extend([[ahead, thing] for ahead in order[:late] if ahead > thing])
    return pairs


def told_order(net, place):
    # The other outs are left aside: they may be too long to be told thing by thing.
    wide = net[0]
    single = (wide, net[1], [net[2][place]] * wide)
    return outs_by(single, [[thing] for thing in range(wide)], joined)[0]
