"""The fields of a word of 16 bits, bit 15 the highest, and the times between words."""

COMMAND_SYNC = 0
DATA_SYNC = 1
ALL_TERMINALS = 31
TIME_SPAN = 4294967296


def bit_of(number, place):
    return (number >> place) & 1


def address_of(word):
    return word >> 11


def is_to_all(command):
    return address_of(command) == ALL_TERMINALS


def is_to_transmit(command):
    return bit_of(command, 10) == 1


def sub_of(command):
    return (command >> 5) & 31


def count_of(command):
    return command & 31


def is_mode(command):
    return sub_of(command) in (0, 31)


def how_many_words(command):
    count = count_of(command)
    if count == 0:
        return 32
    return count


def time_between(before, now):
    return (now - before) % TIME_SPAN


def ones_in(word):
    return sum([bit_of(word, place) for place in range(16)])


def on_the_wire(sync, word):
    """The word with its sync as bit 16 and its odd parity as bit 17."""
    parity = 1 - ones_in(word) % 2
    return (parity << 17) | (sync << 16) | word
