"""Calls on a terminal and the answers that are expected, for the tests."""

from busterminal.state import Terminal
from busterminal.terminal import answer, answers

ALL = 31
OWN = 5
OTHER = 9
RECEIVE = 0
TRANSMIT = 1


def begin(address=OWN):
    return [0, address]


def word(sync, value, now, good=1):
    return [1, sync, value, good, now]


def command(address, transmit, sub, count):
    return address << 11 | transmit << 10 | sub << 5 | count


def say(now, address, transmit, sub, count):
    return word(0, command(address, transmit, sub, count), now)


def mode(now, code, address=OWN, transmit=1, sub=0):
    return say(now, address, transmit, sub, code)


def data(value, now, good=1):
    return word(1, value, now, good)


def data_row(values, now, gap=20):
    """A data word every gap, the first gap behind now."""
    return [data(value, (now + gap * (place + 1)) % 2**32) for place, value in enumerate(values)]


def tick(now):
    return [2, now]


def output():
    return [3]


def give(sub, words):
    return [4, sub, len(words)] + list(words)


def ask(*calls):
    """The answer of each call."""
    numbers = answers([number for call in calls for number in call])
    rows = []
    while numbers:
        rows.append(numbers[1:1 + numbers[0]])
        numbers = numbers[1 + numbers[0]:]
    assert len(rows) == len(calls)
    return rows


def output_after(*calls):
    return ask(begin(), *calls, output())[-1]


def terminal_after(*calls):
    """The terminal itself, for what no call tells yet."""
    terminal = Terminal()
    for call in [begin()] + list(calls):
        answer(terminal, call)
    return terminal


def wire(sync, value):
    parity = 0 if bin(value).count("1") % 2 == 1 else 1
    return parity * 131072 + sync * 65536 + value


def status(address=OWN, error=0, to_all=0):
    return address * 2048 + error * 1024 + to_all * 16


def sent(status_word, *values):
    return [1 + len(values), wire(0, status_word)] + [wire(1, value) for value in values]


SILENCE = [0]
