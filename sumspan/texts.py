"""Nets written as texts, and read again."""

from sumspan.errors import BadNet, BadText
from sumspan.nets import look_net

FIGURES = "0123456789"
MOST_FIGURES = 3


def written(net):
    look_net(net)
    wide = net[0]
    steps = [f"{one}+{other}" for one, other in net[1]]
    outs = [str(out) for out in net[2]]
    return "\n".join([f"wide {wide}"] + steps + [" ".join(["outs"] + outs)])


def read(text):
    rows = text.split("\n")
    wide = read_wide(rows[0])
    steps = [read_step(row) for row in rows[1:-1]]
    outs = read_outs(rows[-1])
    net = (wide, steps, outs)
    try:
        look_net(net)
    except BadNet:
        raise BadText("the text is written like a net but is none") from None
    return net


def read_wide(row):
    words = row.split(" ")
    if len(words) != 2 or words[0] != "wide":
        raise BadText("the first row is the word wide and a number")
    return read_number(words[1])


def read_step(row):
    words = row.split("+")
    if len(words) != 2:
        raise BadText("the row of a step is two nodes with a plus between")
    return (read_number(words[0]), read_number(words[1]))


def read_outs(row):
    words = row.split(" ")
    if words[0] != "outs":
        raise BadText("the last row is the word outs and the outs")
    return [read_number(word) for word in words[1:]]


def read_number(word):
    if not is_number(word):
        raise BadText(f"a number has up to {MOST_FIGURES} figures and no nought ahead")
    return int(word)


def is_number(word):
    if not 1 <= len(word) <= MOST_FIGURES:
        return False
    if len(word) > 1 and word[0] == "0":
        return False
    return all([sign in FIGURES for sign in word])
