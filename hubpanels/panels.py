"""Panels: texts of wires between hubs, judged before they are believed, and what goes into their hubs."""

LONGEST_TEXT = 16384
MOST_WIRES = 256
LINE_END = 10

LAST_COLUMN = 79
LAST_HUB = 255
FIRST_FROM = 80

NOTHING = 0
ALL_ROWS = 4095
UPPER_ROWS = 3
LOWER_ROWS = 4092

TOO_LONG = -1
NO_SUCH_HUB = -4
FAULTY = -6
NOT_TOLD = -8

NO_LINE = 1
LINE_TOO_MANY = 2
SECOND_WIRE = 3
ROUND = 4

# A kind of hub: its word and, for each number behind it, the greatest there is.
# The takers stand in the order in which a call counts them.
SENDERS = (
    ("read", (79,)),
    ("send", (63,)),
    ("from", (255,)),
    ("upper", (63,)),
    ("lower", (63,)),
    ("hole", (63, 11)),
    ("chosen", (63,)),
    ("both", (63,)),
)
TAKERS = (
    ("to", (255,)),
    ("split", (63,)),
    ("look", (63,)),
    ("by", (63,)),
    ("plain", (63,)),
    ("other", (63,)),
    ("one", (63,)),
    ("two", (63,)),
)

# A round runs through boxes, whichever of their hubs its wires use:
# so all the hubs of a box share the name of its kind.
BOX_KINDS = {
    "upper": "split",
    "lower": "split",
    "split": "split",
    "hole": "look",
    "look": "look",
    "chosen": "chosen",
    "by": "chosen",
    "plain": "chosen",
    "other": "chosen",
    "both": "both",
    "one": "both",
    "two": "both",
}


# Goes through one line from its start. What is read counts as right at once,
# so that behind a failed reading `right` is the number that a fault tells.
class LineReader:
    def __init__(self, line):
        self.line = line
        self.right = 0

    def count_shared(self, signs):
        shared = 0
        for byte, sign in zip(self.line[self.right:self.right + len(signs)], signs):
            if byte != ord(sign):
                break
            shared += 1
        return shared

    def read_signs(self, signs):
        shared = self.count_shared(signs)
        self.right += shared
        return shared == len(signs)

    def figure_ahead(self):
        if self.right == len(self.line):
            return -1
        figure = self.line[self.right] - ord("0")
        return figure if 0 <= figure <= 9 else -1

    # Every range holds all numbers of one figure, so the first is not measured.
    # A figure that leads out of the range is left for what is read next to stop at.
    def read_number(self, greatest):
        number = self.figure_ahead()
        if number < 0:
            return None
        self.right += 1
        # Behind a nought no figure is read: that nought would be a needless one.
        while number > 0:
            figure = self.figure_ahead()
            if figure < 0 or number * 10 + figure > greatest:
                break
            number = number * 10 + figure
            self.right += 1
        return number

    # No word begins another, so the one that shares the most signs is the one
    # that stands there, or else the one by which the most bytes are right.
    def read_hub(self, kinds):
        kind = max(kinds, key=lambda known: self.count_shared(known[0]))
        if not self.read_signs(kind[0]):
            return None
        hub = [kind[0]]
        for greatest in kind[1]:
            if not self.read_signs(" "):
                return None
            number = self.read_number(greatest)
            if number is None:
                return None
            hub.append(number)
        return tuple(hub)

    def read_wire(self):
        sender = self.read_hub(SENDERS)
        if sender is None or not self.read_signs(" > "):
            return None
        taker = self.read_hub(TAKERS)
        if taker is None or not self.read_signs("\n"):
            return None
        return (sender, taker)


def part_lines(text):
    lines = []
    line = []
    for byte in text:
        line.append(byte)
        if byte == LINE_END:
            lines.append(line)
            line = []
    if line:
        lines.append(line)
    return lines


def read_wires(lines):
    return [LineReader(line).read_wire() for line in lines]


# A fault is a list of its kind, its line or wire and its number; no fault is an empty list.
def find_line_fault(lines):
    for place, line in enumerate(lines):
        if place == MOST_WIRES:
            return [LINE_TOO_MANY, place, 0]
        reader = LineReader(line)
        if reader.read_wire() is None:
            return [NO_LINE, place, reader.right]
    return []


def box_of(hub):
    kind = BOX_KINDS.get(hub[0])
    if kind is None:
        return None
    return (kind, hub[1])


def comes_to(sends_to, start, goal):
    seen = {start: True}
    waiting = [start]
    while waiting:
        box = waiting.pop()
        if box == goal:
            return True
        for follower in sends_to.get(box, []):
            if follower not in seen:
                seen[follower] = True
                waiting.append(follower)
    return False


# The wires before the one that is looked at make no round, else they had been
# the fault: so a round is made only by a wire to a box that comes back to its own.
def find_wire_fault(wires):
    led_to = {}
    sends_to = {}
    for place, wire in enumerate(wires):
        if wire[1] in led_to:
            return [SECOND_WIRE, place, 0]
        led_to[wire[1]] = True
        source = box_of(wire[0])
        target = box_of(wire[1])
        if source is None or target is None:
            continue
        if comes_to(sends_to, target, source):
            return [ROUND, place, 0]
        sends_to[source] = sends_to.get(source, []) + [target]
    return []


# Gives back an empty list where the text is taken.
def find_refusal(text):
    if len(text) > LONGEST_TEXT:
        return [TOO_LONG]
    lines = part_lines(text)
    fault = find_line_fault(lines)
    if not fault:
        fault = find_wire_fault(read_wires(lines))
    if fault:
        return [FAULTY] + fault
    return []


# A card and what the machine sends are told alike: numbers of columns or hubs, rising, each with its holes.
def is_told(row, last_number):
    if len(row) % 2 == 1:
        return False
    before = -1
    for place in range(0, len(row), 2):
        if not before < row[place] <= last_number:
            return False
        if not NOTHING < row[place + 1] <= ALL_ROWS:
            return False
        before = row[place]
    return True


def find_refusal_with_lists(text, card, sending):
    refusal = find_refusal(text)
    if refusal:
        return refusal
    if is_told(card, LAST_COLUMN) and is_told(sending, LAST_HUB):
        return []
    return [NOT_TOLD]


def hole_of_figure(figure):
    return 1 << (figure + 2)


def holes_of_number(number):
    zone = number // 16
    value = number % 16
    holes = NOTHING
    if zone > 0:
        holes = 1 << (zone - 1)
    if value > 9:
        return holes | hole_of_figure(8) | hole_of_figure(value - 8)
    if value > 0:
        return holes | hole_of_figure(value)
    return holes


def holes_by_hub(word, row):
    holes = {}
    for place in range(0, len(row), 2):
        holes[(word, row[place])] = row[place + 1]
    return holes


# `outside` has the holes of the hubs that send what no box makes, `inside` those of the hubs that take.
def holes_sent(hub, outside, inside):
    word = hub[0]
    number = hub[1]
    if word == "send":
        return holes_of_number(number)
    if word == "upper":
        return inside.get(("split", number), NOTHING) & UPPER_ROWS
    if word == "lower":
        return inside.get(("split", number), NOTHING) & LOWER_ROWS
    if word == "hole":
        return inside.get(("look", number), NOTHING) & (1 << hub[2])
    if word == "chosen":
        turned = inside.get(("by", number), NOTHING) != NOTHING
        return inside.get(("other" if turned else "plain", number), NOTHING)
    if word == "both":
        return inside.get(("one", number), NOTHING) | inside.get(("two", number), NOTHING)
    return outside.get(hub, NOTHING)


def hubs_behind(sender):
    box = box_of(sender)
    if box is None:
        return []
    return [(kind[0], box[1]) for kind in TAKERS if BOX_KINDS.get(kind[0]) == box[0]]


def senders_by_taker(wires):
    senders = {}
    for wire in wires:
        senders[wire[1]] = wire[0]
    return senders


# A hub waits until all that its sender's box takes by are filled. There is no round, so none waits for itself.
def fill_hubs(wires, outside):
    senders = senders_by_taker(wires)
    inside = {}
    for wire in wires:
        waiting = [wire[1]]
        while waiting:
            sender = senders[waiting[-1]]
            awaited = [hub for hub in hubs_behind(sender) if hub in senders and hub not in inside]
            if awaited:
                waiting.extend(awaited)
            else:
                taker = waiting.pop()
                inside[taker] = holes_sent(sender, outside, inside)
    return inside


# The ways back to where it all comes from may double at each box: so no hub is gone back from twice.
def find_needs(wires, start):
    senders = senders_by_taker(wires)
    needed = {}
    seen = {start: True}
    waiting = [start]
    while waiting:
        sender = senders.get(waiting.pop())
        if sender is None:
            continue
        if sender[0] == "read":
            needed[sender[1]] = True
        if sender[0] == "from":
            needed[FIRST_FROM + sender[1]] = True
        for hub in hubs_behind(sender):
            if hub not in seen:
                seen[hub] = True
                waiting.append(hub)
    return sorted(needed)


# To be asked only of what is not refused.
def find_state(text, card, sending):
    outside = holes_by_hub("read", card)
    outside.update(holes_by_hub("from", sending))
    return fill_hubs(read_wires(part_lines(text)), outside)


def judge(text):
    refusal = find_refusal(text)
    if refusal:
        return refusal
    return [len(part_lines(text))]


def run(text, card, sending):
    refusal = find_refusal_with_lists(text, card, sending)
    if refusal:
        return refusal
    inside = find_state(text, card, sending)
    answer = [0]
    for number in range(LAST_HUB + 1):
        holes = inside.get(("to", number), NOTHING)
        if holes != NOTHING:
            answer.extend([number, holes])
    return answer


def state(into, k, text, card, sending):
    refusal = find_refusal_with_lists(text, card, sending)
    if refusal:
        return refusal
    if not 0 <= into < len(TAKERS):
        return [NO_SUCH_HUB]
    kind = TAKERS[into]
    if not 0 <= k <= kind[1][0]:
        return [NO_SUCH_HUB]
    return [find_state(text, card, sending).get((kind[0], k), NOTHING)]


def needs(n, text):
    refusal = find_refusal(text)
    if refusal:
        return refusal
    if not 0 <= n <= LAST_HUB:
        return [NO_SUCH_HUB]
    return [0] + find_needs(read_wires(part_lines(text)), ("to", n))
