"""The least depth, and nets of the least steps for a depth."""

from sumspan.bounds import is_whole, look_within
from sumspan.errors import BadKind
from sumspan.nets import MOST_THINGS, add_step

LEAST_NET_THINGS = 6


def least_depth(wide):
    look_within("the things", wide, 1, MOST_THINGS)
    deep = 0
    reach = 1
    while reach < wide:
        reach = reach * 2
        deep += 1
    return deep


def least_net(wide, deep):
    look_within("the things", wide, 1, LEAST_NET_THINGS)
    if not is_whole(deep) or deep < 0:
        raise BadKind("a depth is a whole number from 0 on")
    if deep < least_depth(wide):
        return None
    # No right net has steps and depth that come to less than 2 * wide - 2. A line has wide - 1 of each, and
    # a pair put together ahead in it makes it one step longer and one turn less deep: so none has fewer steps.
    # Up to 6 things there are pairs enough for every depth from the least one on.
    return paired_line(wide, max(0, wide - 1 - deep))


def paired_line(wide, pairs):
    steps = []
    outs = [0]
    for thing in range(1, wide):
        if thing % 2 == 1 and 1 < thing <= 2 * pairs + 1:
            pair = add_step(wide, steps, thing - 1, thing)
            outs.append(add_step(wide, steps, outs[-2], pair))
        else:
            outs.append(add_step(wide, steps, outs[-1], thing))
    return (wide, steps, outs)
