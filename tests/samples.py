"""Nets that several tests use."""

KINDS = ("any", "commuting", "greatest")


def line_net(wide):
    steps = []
    outs = [0]
    for thing in range(1, wide):
        steps.append((outs[-1], thing))
        outs.append(wide + len(steps) - 1)
    return (wide, steps, outs)


def stride_net(wide):
    steps = []
    nodes = list(range(wide))
    stride = 1
    while stride < wide:
        ahead = list(nodes)
        for place in range(stride, wide):
            steps.append((ahead[place - stride], ahead[place]))
            nodes[place] = wide + len(steps) - 1
        stride *= 2
    return (wide, steps, nodes)


def doubled_chain(wide, thing, length):
    steps = [(thing, thing)]
    while len(steps) < length:
        last = wide + len(steps) - 1
        steps.append((last, last))
    return steps


# Each with the way in which it is no net.
NO_NETS = (
    ("0 things", (0, [], [])),
    ("65 things", (65, [], list(range(65)))),
    ("less than no thing", (-1, [], [])),
    ("501 steps", (1, [(0, 0)] * 501, [0])),
    ("too few outs", (2, [(0, 1)], [0])),
    ("too many outs", (2, [(0, 1)], [0, 2, 2])),
    ("no outs", (1, [], [])),
    ("a step of itself, first", (2, [(2, 0)], [0, 1])),
    ("a step of itself, second", (2, [(0, 2)], [0, 1])),
    ("a step of one behind it, first", (2, [(3, 0), (0, 1)], [0, 1])),
    ("a step of one behind it, second", (2, [(0, 3), (0, 1)], [0, 1])),
    ("a later step of itself", (2, [(0, 1), (3, 1)], [0, 1])),
    ("a step of a node below 0, first", (2, [(-1, 0)], [0, 1])),
    ("a step of a node below 0, second", (2, [(0, -1)], [0, 1])),
    ("a step that is not used and no pair of nodes", (2, [(0, 1), (0, 9)], [0, 2])),
    ("an out behind the last node", (2, [(0, 1)], [0, 3])),
    ("a first out behind the last node", (2, [(0, 1)], [3, 2])),
    ("an out below 0", (2, [(0, 1)], [0, -1])),
    ("numbers of 15 figures", (999999999999999, [], [0])),
    ("a step of 15 figures", (2, [(0, 999999999999999)], [0, 1])),
    ("an out of 15 figures", (2, [], [0, -999999999999999])),
    ("a pair", (1, [])),
    ("four", (1, [], [0], [])),
    ("a list", [1, [], [0]]),
    ("a truth for things", (True, [], [0])),
    ("a tuple of steps", (1, (), [0])),
    ("a tuple of outs", (1, [], (0,))),
    ("a list for a step", (2, [[0, 1]], [0, 2])),
    ("a step of three", (2, [(0, 1, 1)], [0, 2])),
    ("a step of one", (2, [(0,)], [0, 1])),
    ("a step of truths", (2, [(False, True)], [0, 2])),
    ("an out that is a truth", (2, [(0, 1)], [False, 2])),
    ("a text for an out", (1, [], ["0"])),
)
