"""What the tests share: texts as lists of bytes, and a slow second reading of the document.

The second reading writes out every hub there is and looks lines up among them, and seeks
rounds by striking out boxes; so it has nothing in common with how the program reads.
"""

import re

LAST_NUMBERS = {
    "read": (79,), "send": (63,), "from": (255,), "upper": (63,), "lower": (63,),
    "hole": (63, 11), "chosen": (63,), "both": (63,),
    "to": (255,), "split": (63,), "look": (63,), "by": (63,), "plain": (63,),
    "other": (63,), "one": (63,), "two": (63,),
}
SENDERS = ("read", "send", "from", "upper", "lower", "hole", "chosen", "both")
TAKERS = ("to", "split", "look", "by", "plain", "other", "one", "two")

# Each box: what it sends by, what it takes by.
BOXES = (
    (("upper", "lower"), ("split",)),
    (("hole",), ("look",)),
    (("chosen",), ("by", "plain", "other")),
    (("both",), ("one", "two")),
)


def as_text(words):
    """The list of bytes of a Python text whose signs are all below 256."""
    return list(words.encode("latin-1"))


def panel(*wires):
    """The list of bytes of a panel whose lines, without their ends, are handed in."""
    return as_text("".join(wire + "\n" for wire in wires))


def hubs_of(word):
    last = LAST_NUMBERS[word]
    if len(last) == 1:
        return [f"{word} {k}" for k in range(last[0] + 1)]
    return [f"{word} {k} {m}" for k in range(last[0] + 1) for m in range(last[1] + 1)]


def sender_with(word, number):
    """A hub of that word and first number; `hole` has a second one."""
    return f"hole {number} {number % 12}" if word == "hole" else f"{word} {number}"


def beginnings(wholes):
    return {whole[:end] for whole in wholes for end in range(len(whole) + 1)}


HEADS = {(hub + " > ").encode() for word in SENDERS for hub in hubs_of(word)}
TAILS = {(hub + "\n").encode() for word in TAKERS for hub in hubs_of(word)}
HEAD_BEGINNINGS = beginnings(HEADS)
TAIL_BEGINNINGS = beginnings(TAILS)


def longest(line, begun):
    return max(end for end in range(min(len(line), 30) + 1) if line[:end] in begun)


def right_bytes(line):
    """How many of the line's bytes are right, and whether it is a line."""
    head = longest(line, HEAD_BEGINNINGS)
    if line[:head] not in HEADS:
        return head, False
    rest = line[head:]
    tail = longest(rest, TAIL_BEGINNINGS)
    return head + tail, rest in TAILS


def box_of(hub):
    parts = hub.split(" ")
    for box, (sends, takes) in enumerate(BOXES):
        if parts[0] in sends or parts[0] in takes:
            return box, int(parts[1])
    return None


def has_round(wires):
    pairs = {(box_of(sender), box_of(taker)) for sender, taker in wires}
    pairs = {pair for pair in pairs if None not in pair}
    while True:
        sending = {source for source, target in pairs}
        left = {pair for pair in pairs if pair[1] in sending}
        if left == pairs:
            return bool(pairs)
        pairs = left


def expected(text):
    """What the document asks judge to answer."""
    if len(text) > 16384:
        return [-1]
    lines = re.findall(rb"[^\n]*\n|[^\n]+", bytes(text))
    for place, line in enumerate(lines):
        if place == 256:
            return [-6, 2, 256, 0]
        right, whole = right_bytes(line)
        if not whole:
            return [-6, 1, place, right]
    wires = [tuple(line.decode().strip("\n").split(" > ")) for line in lines]
    for place, (sender, taker) in enumerate(wires):
        if taker in [wire[1] for wire in wires[:place]]:
            return [-6, 3, place, 0]
        if has_round(wires[:place + 1]):
            return [-6, 4, place, 0]
    return [len(wires)]
