"""Nets that several tests use."""

import random

KINDS = ("any", "commuting", "greatest")
WORDS = ("line", "halves", "strides", "updown")
LARGE = 999999999999999

# Of two things: the second told ahead of the first; the first told twice; the second left out.
TURNED = (2, [(1, 0)], [0, 2])
TWICE = (2, [(0, 1), (0, 2)], [0, 3])
MISSING = (2, [], [0, 0])


def line_net(wide):
    steps = []
    outs = [0]
    for thing in range(1, wide):
        steps.append((outs[-1], thing))
        outs.append(wide + len(steps) - 1)
    return (wide, steps, outs)


def stride_net(wide):
    steps = []
    nodes = list(range(wide))
    stride = 1
    while stride < wide:
        ahead = list(nodes)
        for place in range(stride, wide):
            steps.append((ahead[place - stride], ahead[place]))
            nodes[place] = wide + len(steps) - 1
        stride *= 2
    return (wide, steps, nodes)


def doubled_chain(wide, thing, length):
    steps = [(thing, thing)]
    while len(steps) < length:
        last = wide + len(steps) - 1
        steps.append((last, last))
    return steps


def span_node(chance, wide, steps, low, high):
    """A node for the things from low to high - 1 in order, put together at random, alike steps now and then."""
    if high - low == 1:
        return low
    middle = chance.randrange(low + 1, high)
    one = span_node(chance, wide, steps, low, middle)
    other = span_node(chance, wide, steps, middle, high)
    steps.append((one, other))
    return wide + len(steps) - 1


def any_step(chance, wide, steps):
    ahead = wide + len(steps)
    return (chance.randrange(ahead), chance.randrange(ahead))


def mixed_net(seed, wide):
    """Right for "any"; with steps that are not used, and steps that are alike."""
    chance = random.Random(seed)
    steps = []
    outs = [0]
    for thing in range(1, wide):
        if chance.random() < 0.4:
            steps.append(any_step(chance, wide, steps))
        # A split near the end keeps the steps within bounds.
        middle = chance.randrange(max(1, thing - 4), thing + 1)
        rest = span_node(chance, wide, steps, middle, thing + 1)
        steps.append((outs[middle - 1], rest))
        outs.append(wide + len(steps) - 1)
    return (wide, steps, outs)


def turned_net(net):
    """Right for "commuting" where the net is right for "any", but for "any" no more, from two things on."""
    return (net[0], [(other, one) for one, other in net[1]], list(net[2]))


def loose_net(seed, wide, count):
    """A net of random steps: hardly ever right."""
    chance = random.Random(seed)
    steps = []
    while len(steps) < count:
        steps.append(any_step(chance, wide, steps))
    return (wide, steps, [chance.randrange(wide + count) for out in range(wide)])


# Each with the way in which it is no net.
NO_NETS = (
    ("0 things", (0, [], [])),
    ("65 things", (65, [], list(range(65)))),
    ("less than no thing", (-1, [], [])),
    ("501 steps", (1, [(0, 0)] * 501, [0])),
    ("too few outs", (2, [(0, 1)], [0])),
    ("too many outs", (2, [(0, 1)], [0, 2, 2])),
    ("no outs", (1, [], [])),
    ("a step of itself, first", (2, [(2, 0)], [0, 1])),
    ("a step of itself, second", (2, [(0, 2)], [0, 1])),
    ("a step of one behind it, first", (2, [(3, 0), (0, 1)], [0, 1])),
    ("a step of one behind it, second", (2, [(0, 3), (0, 1)], [0, 1])),
    ("a later step of itself", (2, [(0, 1), (3, 1)], [0, 1])),
    ("a step of a node below 0, first", (2, [(-1, 0)], [0, 1])),
    ("a step of a node below 0, second", (2, [(0, -1)], [0, 1])),
    ("a step that is not used and no pair of nodes", (2, [(0, 1), (0, 9)], [0, 2])),
    ("an out behind the last node", (2, [(0, 1)], [0, 3])),
    ("a first out behind the last node", (2, [(0, 1)], [3, 2])),
    ("an out below 0", (2, [(0, 1)], [0, -1])),
    ("numbers of 15 figures", (999999999999999, [], [0])),
    ("a step of 15 figures", (2, [(0, 999999999999999)], [0, 1])),
    ("an out of 15 figures", (2, [], [0, -999999999999999])),
    ("a pair", (1, [])),
    ("four", (1, [], [0], [])),
    ("a list", [1, [], [0]]),
    ("a truth for things", (True, [], [0])),
    ("a tuple of steps", (1, (), [0])),
    ("a tuple of outs", (1, [], (0,))),
    ("a list for a step", (2, [[0, 1]], [0, 2])),
    ("a step of three", (2, [(0, 1, 1)], [0, 2])),
    ("a step of one", (2, [(0,)], [0, 1])),
    ("a step of truths", (2, [(False, True)], [0, 2])),
    ("an out that is a truth", (2, [(0, 1)], [False, 2])),
    ("a text for an out", (1, [], ["0"])),
)
