"""What the tests share: texts as lists of bytes, and a slow second reading of the document.

The second reading writes out every hub there is and looks lines up among them, and seeks
rounds by striking out boxes; so it has nothing in common with how the program reads. What
goes into the hubs it tells as sets of rows, and goes through all wires again and again
until nothing is new.
"""

import random
import re

LAST_NUMBERS = {
    "read": (79,), "send": (63,), "from": (255,), "upper": (63,), "lower": (63,),
    "hole": (63, 11), "chosen": (63,), "both": (63,),
    "to": (255,), "split": (63,), "look": (63,), "by": (63,), "plain": (63,),
    "other": (63,), "one": (63,), "two": (63,),
}
SENDERS = ("read", "send", "from", "upper", "lower", "hole", "chosen", "both")
TAKERS = ("to", "split", "look", "by", "plain", "other", "one", "two")

# Each box: what it sends by, what it takes by.
BOXES = (
    (("upper", "lower"), ("split",)),
    (("hole",), ("look",)),
    (("chosen",), ("by", "plain", "other")),
    (("both",), ("one", "two")),
)


def as_text(words):
    """The list of bytes of a Python text whose signs are all below 256."""
    return list(words.encode("latin-1"))


def panel(*wires):
    """The list of bytes of a panel whose lines, without their ends, are handed in."""
    return as_text("".join(wire + "\n" for wire in wires))


def hubs_of(word):
    last = LAST_NUMBERS[word]
    if len(last) == 1:
        return [f"{word} {k}" for k in range(last[0] + 1)]
    return [f"{word} {k} {m}" for k in range(last[0] + 1) for m in range(last[1] + 1)]


def sender_with(word, number):
    """A hub of that word and first number; `hole` has a second one."""
    return f"hole {number} {number % 12}" if word == "hole" else f"{word} {number}"


def beginnings(wholes):
    return {whole[:end] for whole in wholes for end in range(len(whole) + 1)}


HEADS = {(hub + " > ").encode() for word in SENDERS for hub in hubs_of(word)}
TAILS = {(hub + "\n").encode() for word in TAKERS for hub in hubs_of(word)}
HEAD_BEGINNINGS = beginnings(HEADS)
TAIL_BEGINNINGS = beginnings(TAILS)


def longest(line, begun):
    return max(end for end in range(min(len(line), 30) + 1) if line[:end] in begun)


def right_bytes(line):
    """How many of the line's bytes are right, and whether it is a line."""
    head = longest(line, HEAD_BEGINNINGS)
    if line[:head] not in HEADS:
        return head, False
    rest = line[head:]
    tail = longest(rest, TAIL_BEGINNINGS)
    return head + tail, rest in TAILS


def box_of(hub):
    parts = hub.split(" ")
    for box, (sends, takes) in enumerate(BOXES):
        if parts[0] in sends or parts[0] in takes:
            return box, int(parts[1])
    return None


def has_round(wires):
    pairs = {(box_of(sender), box_of(taker)) for sender, taker in wires}
    pairs = {pair for pair in pairs if None not in pair}
    while True:
        sending = {source for source, target in pairs}
        left = {pair for pair in pairs if pair[1] in sending}
        if left == pairs:
            return bool(pairs)
        pairs = left


def expected(text):
    """What the document asks judge to answer."""
    if len(text) > 16384:
        return [-1]
    lines = re.findall(rb"[^\n]*\n|[^\n]+", bytes(text))
    for place, line in enumerate(lines):
        if place == 256:
            return [-6, 2, 256, 0]
        right, whole = right_bytes(line)
        if not whole:
            return [-6, 1, place, right]
    wires = [tuple(line.decode().strip("\n").split(" > ")) for line in lines]
    # Where all wires together make no round, none of their beginnings does.
    rounds = has_round(wires)
    for place, (sender, taker) in enumerate(wires):
        if taker in [wire[1] for wire in wires[:place]]:
            return [-6, 3, place, 0]
        if rounds and has_round(wires[:place + 1]):
            return [-6, 4, place, 0]
    return [len(wires)]


# The code, written out: the rows of z, and those of v.
ZONE_ROWS = ((), (0,), (1,), (2,))
VALUE_ROWS = (
    (), (3,), (4,), (5,), (6,), (7,), (8,), (9,), (10,), (11,),
    (10, 4), (10, 5), (10, 6), (10, 7), (10, 8), (10, 9),
)
CODE = [frozenset(zone + value) for zone in ZONE_ROWS for value in VALUE_ROWS]


def rows_of(holes):
    return frozenset(row for row in range(12) if holes // 2 ** row % 2 == 1)


def holes_of(rows):
    return sum(2 ** row for row in rows)


def told(row):
    return dict(zip(row[::2], row[1::2]))


def is_told(row, places):
    numbers = row[::2]
    return (
        len(row) % 2 == 0
        and all(number in range(places) for number in numbers)
        and all(holes in range(1, 4096) for holes in row[1::2])
        and numbers == sorted(set(numbers))
    )


def rows_sent(hub, card, sending, inside):
    word, k = hub.split(" ")[:2]

    def into(takes):
        return inside.get(f"{takes} {k}", frozenset())

    return {
        "read": lambda: rows_of(told(card).get(int(k), 0)),
        "from": lambda: rows_of(told(sending).get(int(k), 0)),
        "send": lambda: CODE[int(k)],
        "upper": lambda: into("split") & {0, 1},
        "lower": lambda: into("split") - {0, 1},
        "hole": lambda: into("look") & {int(hub.split(" ")[2])},
        "chosen": lambda: into("other") if into("by") else into("plain"),
        "both": lambda: into("one") | into("two"),
    }[word]()


def wires_of(text):
    return [tuple(line.split(" > ")) for line in bytes(text).decode().splitlines()]


def expected_inside(text, card, sending):
    """The rows that go into each hub to which a wire leads, of a panel that is taken."""
    wires = wires_of(text)
    inside = {}
    while True:
        after = {taker: rows_sent(sender, card, sending, inside) for sender, taker in wires}
        if after == inside:
            return inside
        inside = after


def expected_run(text, card, sending):
    """What the document asks run to answer."""
    judged = expected(text)
    if judged[0] < 0:
        return judged
    if not is_told(card, 80) or not is_told(sending, 256):
        return [-8]
    inside = expected_inside(text, card, sending)
    answer = [0]
    for number in range(256):
        if inside.get(f"to {number}"):
            answer += [number, holes_of(inside[f"to {number}"])]
    return answer


def expected_needs(n, text):
    """What the document asks needs to answer."""
    judged = expected(text)
    if judged[0] < 0:
        return judged
    if n not in range(256):
        return [-4]
    wires = wires_of(text)
    hangs_on = {}
    while True:
        after = {}
        for sender, taker in wires:
            word, k = sender.split(" ")[:2]
            if word in ("read", "from"):
                after[taker] = {int(k) if word == "read" else 80 + int(k)}
            else:
                takes = [takes for sends, takes in BOXES if word in sends]
                hubs = [f"{each} {k}" for words in takes for each in words]
                after[taker] = set().union(*[hangs_on.get(hub, set()) for hub in hubs])
        if after == hangs_on:
            return [0] + sorted(hangs_on.get(f"to {n}", ()))
        hangs_on = after


def some_outside(chance):
    word = chance.choice(("read", "read", "from", "send"))
    return f"{word} {chance.randint(0, LAST_NUMBERS[word][0])}"


def some_panel(chance, numbers, outside=0.4):
    """The lines of a sound panel, in any order: some boxes, each of which gets from those made before it."""
    boxes = [(box, k) for box in range(len(BOXES)) for k in chance.sample(range(64), numbers)]
    chance.shuffle(boxes)
    senders = []
    wires = []

    def some_sender():
        if not senders or chance.random() < outside:
            return some_outside(chance)
        return chance.choice(senders[-12:])

    for box, k in boxes:
        sends, takes = BOXES[box]
        wires += [f"{some_sender()} > {word} {k}" for word in takes if chance.random() < 0.9]
        senders += [f"{word} {k}" for word in sends if word != "hole"]
        senders += [f"hole {k} {chance.randrange(12)}" for word in sends if word == "hole"]
    ends = chance.sample(range(256), min(256 - len(wires), len(senders) + 4))
    wires += [f"{some_sender()} > to {n}" for n in ends]
    chance.shuffle(wires)
    return wires


def some_told(chance, places):
    """A row as a card, or what the machine sends, is told."""
    row = []
    for number in sorted(chance.sample(range(places), chance.randint(0, places))):
        row += [number, chance.choice((1, 2, 3, 4, 4092, 4095, 2048, chance.randint(1, 4095)))]
    return row


FAR = 10 ** 18
FULL_CARD = [number for column in range(80) for number in (column, 4095)]
FULL_SENDING = [number for hub in range(256) for number in (hub, 4095)]

# What is neither a card nor what the machine sends.
NEITHER = (
    [0], [5], [1], [-1], [FAR], [0, 1, 1], [0, 1, 2, 3, 4], [0, 1, 1, 1, 2],
    [-1, 1], [-2, 1], [256, 1], [257, 1], [FAR, 1], [-FAR, 1], [0, 1, FAR, 1], [-1, 1, 0, 1],
    [3, 1, 3, 1], [3, 1, 3, 2], [0, 1, 0, 1], [4, 1, 3, 1], [79, 1, 0, 1], [0, 1, 2, 1, 1, 1], [0, 1, 2, 1, 2, 1],
    [1, 1, 0, 1], [79, 1, 79, 1],
    [0, 0], [0, 4096], [0, 4097], [0, -1], [0, -4095], [0, FAR], [0, -FAR], [0, 8191],
    [0, 0, 1, 1], [0, 1, 1, 0], [0, 1, 1, 4096], [0, 4096, 1, 1], [0, 1, 79, -1], [0, 1, 79, FAR],
    [FAR, FAR], [-FAR, -FAR], [0, 0, 0, 0],
)
# What the machine may send, but no card has.
NO_CARD = ([80, 1], [81, 1], [255, 4095], [0, 1, 80, 1], [79, 1, 80, 1])
# Cards, and what the machine may send.
EITHER = (
    [], [0, 1], [0, 4095], [79, 1], [79, 4095], [0, 1, 79, 4095], [0, 1, 1, 1], [1, 5, 2, 4], [78, 1, 79, 1],
    FULL_CARD,
)


def long_way():
    """256 wires through 255 boxes, each of which sends row 0 to the next."""
    boxes = []
    for k in range(64):
        boxes += [(f"split {k}", f"upper {k}"), (f"look {k}", f"hole {k} 0")]
        boxes += [(f"plain {k}", f"chosen {k}"), (f"one {k}", f"both {k}")]
    boxes.pop()
    senders = ["read 0"] + [sends for takes, sends in boxes]
    takers = [takes for takes, sends in boxes] + ["to 0"]
    return [f"{sender} > {taker}" for sender, taker in zip(senders, takers)]


def turning_way():
    """Each box sends the figure 0 if the one before it sends nothing, else nothing; each is told."""
    wires = ["read 0 > by 0"]
    for k in range(64):
        wires += [f"send 48 > plain {k}", f"chosen {k} > to {k}"]
        if k < 63:
            wires.append(f"chosen {k} > by {k + 1}")
    return wires


def doubling_way():
    """Twice as many ways behind each box as before it."""
    wires = ["read 0 > one 0", "read 1 > two 0", "both 63 > to 0"]
    for k in range(63):
        wires += [f"both {k} > one {k + 1}", f"both {k} > two {k + 1}"]
    return wires


def gathering_way():
    """Each box adds one more of the first twelve columns to what came before it."""
    wires = [f"read {k} > one {k}" for k in range(12)]
    wires += [f"both {k} > two {k + 1}" for k in range(11)] + [f"both {k} > to {k}" for k in range(12)]
    return wires


def orders(wires):
    middle = len(wires) // 2
    given = [wires, wires[::-1], wires[::2] + wires[1::2], wires[1::2] + wires[::2], wires[middle:] + wires[:middle]]
    given += [wires[:middle][::-1] + wires[middle:], sorted(wires), sorted(wires, reverse=True)]
    for seed in range(10):
        other = list(wires)
        random.Random(seed).shuffle(other)
        given.append(other)
    return given
