"""Nets used: to add, to take out, to sort, by few workers; and tidied."""

from sumspan.bounds import is_within, look_within
from sumspan.errors import BadRow, Wrong
from sumspan.judging import joined, judged, look_row
from sumspan.nets import depths, look_net, outs_by, pruned

KEY_BITS = 16
MOST_KEY = 65535
MOST_WORKERS = 64


def look_right(net, kind):
    if judged(net, kind) != ("right",):
        raise Wrong(f"the net is not right for {kind}")


def look_numbers(wide, numbers, most):
    if not isinstance(numbers, list) or len(numbers) != wide:
        raise BadRow("there is not one number for each thing")
    for place, number in enumerate(numbers):
        if not is_within(number, 0, most):
            raise BadRow(f"number {place} is not a whole number from 0 to {most}")


def added(net, one, other):
    look_right(net, "any")
    look_numbers(net[0], one, 1)
    look_numbers(net[0], other, 1)
    # Of each place: whether a carry comes out of it by itself, and whether it lets one through.
    places = [(first & second, first | second) for first, second in zip(one, other)]
    carries = [0] + [carry[0] for carry in outs_by(net, places, carried)]
    return [first ^ second ^ carry for first, second, carry in zip(one, other, carries)] + carries[-1:]


def carried(light, heavy):
    return (heavy[0] | (heavy[1] & light[0]), heavy[1] & light[1])


def taken(net, row, marks):
    look_right(net, "commuting")
    look_row(net[0], "commuting", row)
    look_numbers(net[0], marks, 1)
    return marked(net, row, marks)


def marked(net, row, marks):
    counts = outs_by(net, marks, joined)
    found = [0] * counts[-1]
    for thing, mark, count in zip(row, marks, counts):
        if mark == 1:
            found[count - 1] = thing
    return found


def sorted_by(net, keys):
    look_right(net, "commuting")
    look_numbers(net[0], keys, MOST_KEY)
    order = list(range(net[0]))
    # From the lightest bit on: a parting leaves like ones as they stood, so as the lighter bits have put them.
    for bit in range(KEY_BITS):
        order = parted(net, order, [(keys[number] >> bit) & 1 for number in order])
    return order


def parted(net, row, marks):
    return marked(net, row, [1 - mark for mark in marks]) + marked(net, row, marks)


def rounds(net, workers):
    look_net(net)
    look_within("the workers", workers, 1, MOST_WORKERS)
    wide = net[0]
    steps = net[1]
    chains = chains_behind(net)
    waiting = sorted(range(len(steps)), key=lambda number: (-chains[number], number))
    there = [True] * wide + [False] * len(steps)
    told = []
    while waiting:
        ready = [number for number in waiting if there[steps[number][0]] and there[steps[number][1]]]
        chosen = sorted(ready[:workers])
        for number in chosen:
            there[wide + number] = True
        waiting = [number for number in waiting if not there[wide + number]]
        told.append(chosen)
    return told


def chains_behind(net):
    wide = net[0]
    steps = net[1]
    chains = [0] * (wide + len(steps))
    # From the last step back: whatever follows a step has been seen by then.
    for place in range(len(steps) - 1, -1, -1):
        for node in steps[place]:
            chains[node] = max(chains[node], chains[wide + place] + 1)
    return chains[wide:]


def fewest_rounds(net, workers):
    deepest = max(depths(net))
    look_within("the workers", workers, 1, MOST_WORKERS)
    return max((len(net[1]) + workers - 1) // workers, deepest)


def tidy(net):
    look_right(net, "any")
    return pruned(net)
