"""Known nets: line, halves, strides and updown."""

from sumspan.bounds import look_within
from sumspan.errors import BadKind
from sumspan.nets import MOST_THINGS, add_step


def line_outs(wide, steps, nodes):
    outs = nodes[:1]
    for node in nodes[1:]:
        outs.append(add_step(wide, steps, outs[-1], node))
    return outs


def halves_outs(wide, steps, nodes):
    if len(nodes) == 1:
        return list(nodes)
    middle = (len(nodes) + 1) // 2
    first = halves_outs(wide, steps, nodes[:middle])
    second = halves_outs(wide, steps, nodes[middle:])
    return first + [add_step(wide, steps, first[-1], out) for out in second]


def strides_outs(wide, steps, nodes):
    outs = list(nodes)
    stride = 1
    while stride < len(nodes):
        # All become so at once: a step never draws on another one of its own stride.
        behind = [add_step(wide, steps, outs[place - stride], outs[place]) for place in range(stride, len(outs))]
        outs = outs[:stride] + behind
        stride = stride * 2
    return outs


def updown_outs(wide, steps, nodes):
    if len(nodes) == 1:
        return list(nodes)
    pairs = [add_step(wide, steps, nodes[place - 1], nodes[place]) for place in range(1, len(nodes), 2)]
    pair_outs = updown_outs(wide, steps, pairs)
    outs = nodes[:1]
    for place in range(1, len(nodes)):
        if place % 2 == 1:
            outs.append(pair_outs[place // 2])
        else:
            outs.append(add_step(wide, steps, pair_outs[place // 2 - 1], nodes[place]))
    return outs


MAKERS = {"line": line_outs, "halves": halves_outs, "strides": strides_outs, "updown": updown_outs}


def known(word, wide):
    if word not in MAKERS:
        raise BadKind("a known net is line, halves, strides or updown")
    look_within("the things", wide, 1, MOST_THINGS)
    steps = []
    outs = MAKERS[word](wide, steps, list(range(wide)))
    return (wide, steps, outs)
