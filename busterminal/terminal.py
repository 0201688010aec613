"""The calls on a terminal, one behind another in a list of whole numbers."""

from busterminal.commands import hear, notice_silence
from busterminal.replies import fetch
from busterminal.state import HIGH_MODES, LOW_MODES, TO_RECEIVE, Terminal
from busterminal.words import COMMAND_SYNC, DATA_SYNC

BEGIN = 0
WORD = 1
TICK = 2
OUTPUT = 3
GIVE = 4
GET = 5
SET_FLAGS = 6
ALLOW = 7
TOLD = 8

# How many numbers a call has with its own number; give's row comes on top.
CALL_LENGTHS = (2, 5, 2, 1, 3, 2, 2, 4, 1)

HIGHEST_ADDRESS = 30
HIGHEST_SUB = 31
LONGEST_ROW = 32
HIGHEST_FLAGS = 31


class UnknownCall(ValueError):
    pass


def answers(calls):
    terminal = Terminal()
    answered = []
    place = 0
    while place < len(calls):
        length = call_length(calls, place)
        numbers = answer(terminal, calls[place:place + length])
        answered.append(len(numbers))
        answered.extend(numbers)
        place = place + length
    return answered


def call_length(calls, place):
    number = calls[place]
    if number < BEGIN or number > TOLD:
        raise UnknownCall(f"no call has the number {number}")
    if number == GIVE:
        return CALL_LENGTHS[GIVE] + calls[place + 2]
    return CALL_LENGTHS[number]


def answer(terminal, call):
    number = call[0]
    if number == BEGIN:
        return begin(terminal, call[1])
    if number == WORD:
        return take_word(terminal, call[1], call[2], call[3], call[4])
    if number == TICK:
        return tick(terminal, call[1])
    if number == OUTPUT:
        return output(terminal)
    if number == GIVE:
        return give(terminal, call[1], call[3:])
    if number == GET:
        return get_words(terminal, call[1])
    if number == SET_FLAGS:
        return set_flags(terminal, call[1])
    if number == ALLOW:
        return allow(terminal, call[1], call[2], call[3])
    return told(terminal)


def done():
    return [0]


def refusal():
    return [-2]


def counted(words):
    return [len(words)] + words


def is_sub(number):
    return 0 <= number and number <= HIGHEST_SUB


def begin(terminal, address):
    if address < 0 or address > HIGHEST_ADDRESS:
        return refusal()
    terminal.begin_anew(address)
    return done()


def take_word(terminal, sync, word, good, now):
    if sync not in (COMMAND_SYNC, DATA_SYNC):
        return refusal()
    hear(terminal, sync, word, good != 0, now)
    return done()


def tick(terminal, now):
    notice_silence(terminal, now)
    return done()


def output(terminal):
    return counted(fetch(terminal))


def give(terminal, sub, words):
    if not is_sub(sub) or len(words) > LONGEST_ROW:
        return refusal()
    terminal.given[sub] = words
    return done()


def get_words(terminal, sub):
    if not is_sub(sub):
        return refusal()
    words = terminal.got[sub]
    terminal.got[sub] = []
    return counted(words)


def set_flags(terminal, flags):
    if flags < 0 or flags > HIGHEST_FLAGS:
        return refusal()
    terminal.flags = flags
    return done()


def allow(terminal, what, sub, counts):
    if not has_allowed_counts(what, sub):
        return refusal()
    terminal.allowed[what][sub] = counts
    return done()


def has_allowed_counts(what, sub):
    """Mode codes are the same for all subs, so only sub 0 stands for them."""
    if what < TO_RECEIVE or what > HIGH_MODES:
        return False
    if what >= LOW_MODES:
        return sub == 0
    return is_sub(sub)


def told(terminal):
    return [
        0,
        terminal.last_status,
        terminal.last_command,
        terminal.step,
        terminal.other_wire_off,
        terminal.messages,
        terminal.errors,
    ]
