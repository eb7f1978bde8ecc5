"""Nets: what one is, how deep it is, what of it is used, and what is left of it when it is pruned."""

from sumspan.bounds import is_within
from sumspan.errors import BadNet

MOST_THINGS = 64
MOST_STEPS = 500


def is_node(value, ahead):
    return is_within(value, 0, ahead - 1)


def is_step(value, ahead):
    if not isinstance(value, tuple) or len(value) != 2:
        return False
    return is_node(value[0], ahead) and is_node(value[1], ahead)


def look_net(net):
    if not isinstance(net, tuple) or len(net) != 3:
        raise BadNet("a net is a triple of things, steps and outs")
    look_wide(net[0])
    look_steps(net[0], net[1])
    look_outs(net[0], net[1], net[2])


def look_wide(wide):
    if not is_within(wide, 1, MOST_THINGS):
        raise BadNet(f"a net is for 1 to {MOST_THINGS} things")


def look_steps(wide, steps):
    if not isinstance(steps, list) or len(steps) > MOST_STEPS:
        raise BadNet(f"a net has a list of at most {MOST_STEPS} steps")
    for place, step in enumerate(steps):
        if not is_step(step, wide + place):
            raise BadNet(f"step {place} is not a pair of nodes ahead of it")


def look_outs(wide, steps, outs):
    if not isinstance(outs, list) or len(outs) != wide:
        raise BadNet("a net has a list of as many outs as things")
    for place, out in enumerate(outs):
        if not is_node(out, wide + len(steps)):
            raise BadNet(f"out {place} is not a node")


def depths(net):
    look_net(net)
    found = [0] * net[0]
    for step in net[1]:
        found.append(1 + max(found[step[0]], found[step[1]]))
    return found


def depth(net):
    found = depths(net)
    return max([found[out] for out in net[2]])


def used(net):
    look_net(net)
    return used_nodes(net)


def used_nodes(net):
    wide = net[0]
    steps = net[1]
    marks = [False] * (wide + len(steps))
    for out in net[2]:
        marks[out] = True
    # From the last step back: whatever uses a step has been seen by then.
    for place in range(len(steps) - 1, -1, -1):
        if marks[wide + place]:
            marks[steps[place][0]] = True
            marks[steps[place][1]] = True
    return marks


def fan(net):
    look_net(net)
    counts = [0] * (net[0] + len(net[1]))
    for step in net[1]:
        counts[step[0]] += 1
        counts[step[1]] += 1
    for out in net[2]:
        counts[out] += 1
    return counts


def pruned(net):
    marks = used(net)
    wide = net[0]
    names = list(range(wide))
    steps = []
    firsts = {}
    for place, step in enumerate(net[1]):
        if not marks[wide + place]:
            # It keeps a place here, so that the nodes behind it are found under their old numbers.
            names.append(None)
            continue
        pair = (names[step[0]], names[step[1]])
        if pair not in firsts:
            firsts[pair] = wide + len(steps)
            steps.append(pair)
        names.append(firsts[pair])
    return (wide, steps, [names[out] for out in net[2]])


def outs_by(net, row, together):
    marks = used_nodes(net)
    values = list(row)
    for step in net[1]:
        # A step that is not used is not reckoned: such steps can double a text hundreds of times over.
        if marks[len(values)]:
            values.append(together(values[step[0]], values[step[1]]))
        else:
            values.append(None)
    return [values[out] for out in net[2]]


def add_step(wide, steps, one, other):
    steps.append((one, other))
    return wide + len(steps) - 1
