"""Calls on a terminal and the answers that are expected, for the tests."""

from collections import namedtuple

from busterminal.terminal import answers

ALL = 31
OWN = 5
OTHER = 9
RECEIVE = 0
TRANSMIT = 1
EVERY_COUNT = 0xFFFFFFFF

# What allow and told say of a terminal, by plain names.
TO_RECEIVE, TO_TRANSMIT, TO_RECEIVE_TO_ALL, LOW_MODES, HIGH_MODES = range(5)
Told = namedtuple("Told", "last_status last_command step other_wire_off messages errors")
Seen = namedtuple("Seen", Told._fields + ("to_send", "got", "error", "to_all", "hushed"))

# The flags, by plain names.
BUSY, SERVICE, SUBSYSTEM_FAULT, OWN_FAULT, CONTROL = 1, 2, 4, 8, 16


def begin(address=OWN):
    return [0, address]


def word(sync, value, now, good=1):
    return [1, sync, value, good, now]


def command(address, transmit, sub, count):
    return address << 11 | transmit << 10 | sub << 5 | count


def say(now, address, transmit, sub, count):
    return word(0, command(address, transmit, sub, count), now)


def mode(now, code, address=OWN, transmit=1, sub=0):
    return say(now, address, transmit, sub, code)


def data(value, now, good=1):
    return word(1, value, now, good)


def data_row(values, now, gap=20):
    """A data word every gap, the first gap behind now."""
    return [data(value, (now + gap * (place + 1)) % 2**32) for place, value in enumerate(values)]


def tick(now):
    return [2, now]


def output():
    return [3]


def give(sub, words):
    return [4, sub, len(words)] + list(words)


def get(sub):
    return [5, sub]


def flags(value):
    return [6, value]


def allow(what, sub, counts):
    return [7, what, sub, counts]


def forbid(what, sub, count):
    """All but this count is allowed."""
    return allow(what, sub, EVERY_COUNT ^ 1 << count)


def told():
    return [8]


def ask(*calls):
    """The answer of each call."""
    numbers = answers([number for call in calls for number in call])
    rows = []
    while numbers:
        rows.append(numbers[1:1 + numbers[0]])
        numbers = numbers[1 + numbers[0]:]
    assert len(rows) == len(calls)
    return rows


def output_after(*calls):
    return ask(begin(), *calls, output())[-1]


def told_after(*calls):
    first, *numbers = ask(begin(), *calls, told())[-1]
    assert first == 0
    return Told(*numbers)


def got_after(sub, *calls):
    return ask(begin(), *calls, get(sub))[-1]


def last_time(calls):
    """When the last call with a time was, of those that are not refused."""
    times = [0] + [call[-1] for call in calls if call[0] == 2 or call[0] == 1 and call[1] in (0, 1)]
    return times[-1]


def seen_after(*calls):
    """All that a terminal shows: mode code 18 leaves error and to all, so its status shows them."""
    look = [output(), told()] + [get(sub) for sub in range(32)]
    probe = [flags(OWN_FAULT), allow(HIGH_MODES, 0, 1 << 18), mode(last_time(calls), 18), output()]
    rows = ask(begin(), *calls, *look, *probe)[1 + len(calls):]
    shown = rows[-1][1]
    return Seen(*rows[1][1:], to_send=rows[0][1:], got=[row[1:] for row in rows[2:34]],
                error=shown >> 10 & 1, to_all=shown >> 4 & 1, hushed=1 - (shown & 1))


def wire(sync, value):
    parity = 0 if bin(value).count("1") % 2 == 1 else 1
    return parity * 131072 + sync * 65536 + value


def status(address=OWN, error=0, service=0, to_all=0, busy=0, subsystem=0, control=0, fault=0):
    bits = error * 1024 + service * 256 + to_all * 16 + busy * 8 + subsystem * 4 + control * 2 + fault
    return address * 2048 + bits


def sent(status_word, *values):
    return [1 + len(values), wire(0, status_word)] + [wire(1, value) for value in values]


SILENCE = [0]
