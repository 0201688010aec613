"""The calls on a terminal, one behind another in a list of whole numbers."""

from busterminal.commands import hear, notice_silence
from busterminal.replies import fetch
from busterminal.state import Terminal
from busterminal.words import COMMAND_SYNC, DATA_SYNC

BEGIN = 0
WORD = 1
TICK = 2
OUTPUT = 3
GIVE = 4

# How many numbers a call has with its own number; give's row comes on top.
CALL_LENGTHS = (2, 5, 2, 1, 3)

HIGHEST_ADDRESS = 30
HIGHEST_SUB = 31
LONGEST_ROW = 32


class UnknownCall(ValueError):
    pass


def answers(calls):
    terminal = Terminal()
    answered = []
    place = 0
    while place < len(calls):
        length = call_length(calls, place)
        numbers = answer(terminal, calls[place:place + length])
        answered.append(len(numbers))
        answered.extend(numbers)
        place = place + length
    return answered


def call_length(calls, place):
    number = calls[place]
    if number < BEGIN or number > GIVE:
        raise UnknownCall(f"no call has the number {number}")
    if number == GIVE:
        return CALL_LENGTHS[GIVE] + calls[place + 2]
    return CALL_LENGTHS[number]


def answer(terminal, call):
    number = call[0]
    if number == BEGIN:
        return begin(terminal, call[1])
    if number == WORD:
        return take_word(terminal, call[1], call[2], call[3], call[4])
    if number == TICK:
        return tick(terminal, call[1])
    if number == OUTPUT:
        return output(terminal)
    return give(terminal, call[1], call[3:])


def done():
    return [0]


def refusal():
    return [-2]


def begin(terminal, address):
    if address < 0 or address > HIGHEST_ADDRESS:
        return refusal()
    terminal.begin_anew(address)
    return done()


def take_word(terminal, sync, word, good, now):
    if sync not in (COMMAND_SYNC, DATA_SYNC):
        return refusal()
    hear(terminal, sync, word, good != 0, now)
    return done()


def tick(terminal, now):
    notice_silence(terminal, now)
    return done()


def output(terminal):
    words = fetch(terminal)
    return [len(words)] + words


def give(terminal, sub, words):
    if sub < 0 or sub > HIGHEST_SUB or len(words) > LONGEST_ROW:
        return refusal()
    terminal.given[sub] = words
    return done()
