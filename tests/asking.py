"""Asks the program in words: "start 100 10; blade 0 50" is a line of two calls."""

from bladesets.halls import answers

NAMES = (
    "start", "blade", "weigh", "scrap", "needs", "off", "match", "set", "part", "third", "spare",
    "exchange", "plan", "least", "follow", "add", "balanced", "ship", "free", "look", "sums", "state",
)
COUNTS = (2, 2, 2, 1, 3, 3, 3, 1, 1, 2, 2, 3, 1, 1, 1, 2, 1, 1, 1, 1, 0, 0)
GREATEST = 4294967295

# Threes that are refused where blades 0, 1 and 2 are all there are.
WRONG_THREES = (
    ("0 1 3", -2), ("0 3 1", -2), ("3 0 1", -2),
    (f"0 1 {GREATEST}", -2), (f"0 {GREATEST} 1", -2), (f"{GREATEST} 0 1", -2),
    ("0 0 1", -22), ("0 1 0", -22), ("1 0 0", -22), ("2 2 2", -22),
    ("3 3 0", -2), ("0 0 3", -2), ("3 3 3", -2),
)


def words_of(text):
    return [call.split() for call in text.split(";") if call.strip()]


def numbers_of(text):
    """The list of whole numbers that stands for a line."""
    numbers = []
    calls = words_of(text)
    for name, *given in calls:
        call = NAMES.index(name)
        if len(given) != COUNTS[call]:
            raise ValueError(f"{name} takes {COUNTS[call]} numbers")
        numbers += [call] + [int(word) for word in given]
    if not 1 <= len(calls) <= 200 or len(numbers) > 800:
        raise ValueError("no such line is handed in")
    return numbers


def split_up(given, calls):
    """The answers, one list for each call; every number must belong to one."""
    parts = []
    at = 0
    while at < len(given):
        parts.append(given[at + 1:at + 1 + given[at]])
        at += 1 + given[at]
    if at != len(given) or len(parts) != calls or [] in parts:
        raise AssertionError(f"{given} are not the answers to {calls} calls")
    return parts


def ask(*texts):
    """What each call of the line is answered."""
    text = ";".join(texts)
    return split_up(answers(numbers_of(text)), len(words_of(text)))


def last(*texts):
    """What the line's last call is answered."""
    return ask(*texts)[-1]


def pulls(base, *blades):
    """What these pull behind a line: their moments and what was added."""
    looks = [last(base, f"look {i}") for i in blades]
    return [look[0] + look[2] for look in looks]


def added(base, *blades):
    """What was added to these behind a line."""
    return [last(base, f"look {i}")[2] for i in blades]


def stock(most, unit, *moments, kind=0):
    """A line's beginning: a start, and blades of one kind with these moments."""
    return "; ".join([f"start {most} {unit}"] + [f"blade {kind} {moment}" for moment in moments])


def picture(blades, base):
    """All that the calls tell of what is there behind a line, with its first so many blades.

    A weighing of 0 is refused: by -16 for what isn't free, by -22 for what is.
    """
    everyone = range(blades)
    probes = ["sums; state"] + [f"look {i}" for i in everyone]
    probes += [f"free {kind}; plan {kind}; least {kind}" for kind in range(4)]
    probes += [f"balanced {s}" for s in range(7)]
    probes += [f"weigh {i} 0" for i in everyone]
    probes += [f"set {s}" for s in range(7)]
    probes += [f"third {i} {i + 1}" for i in range(blades - 1)]
    probes += [f"needs {i} {i + 1} {i + 2}; off {i} {i + 1} {i + 2}" for i in range(blades - 2)]
    probes += [f"part {s}" for s in range(7)]
    probes += [f"match {i} {i + 1} {i + 2}; part 0" for i in range(blades - 2)]
    probes += [f"scrap {i}" for i in everyone]
    probes += ["blade 0 1"]
    return ask(base, *probes)[len(words_of(base)):]


def changes_nothing(blades, base, refused):
    """Whether all is as before behind a call that is refused."""
    if last(base, refused)[0] >= 0:
        raise AssertionError(f"{refused} is not refused")
    return picture(blades, base + ";" + refused) == picture(blades, base)
