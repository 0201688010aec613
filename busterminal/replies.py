"""The status, and what a terminal sends."""

from busterminal.words import COMMAND_SYNC, DATA_SYNC, bit_of, is_to_all, on_the_wire


def is_busy(terminal):
    return bit_of(terminal.flags, 0) == 1


def may_hand_over_control(terminal):
    return bit_of(terminal.flags, 4) == 1


def shown_fault(terminal):
    if terminal.hushed == 1:
        return 0
    return bit_of(terminal.flags, 3)


def status_of(terminal, control_taken):
    status = terminal.address << 11
    status = status | (terminal.error << 10)
    status = status | (bit_of(terminal.flags, 1) << 8)
    status = status | (terminal.to_all << 4)
    status = status | (bit_of(terminal.flags, 0) << 3)
    status = status | (bit_of(terminal.flags, 2) << 2)
    status = status | (control_taken << 1)
    return status | shown_fault(terminal)


def send(terminal, status, data):
    """Makes the answer, in place of one that has not been fetched."""
    terminal.last_status = status
    words = [on_the_wire(COMMAND_SYNC, status)]
    words.extend([on_the_wire(DATA_SYNC, word) for word in data])
    terminal.to_send = words


def reply(terminal, command, data):
    """The status and the data, unless all were spoken to: they would answer at once."""
    if not is_to_all(command):
        send(terminal, status_of(terminal, 0), data)


def reply_error(terminal, command):
    terminal.error = 1
    reply(terminal, command, [])


def fetch(terminal):
    words = terminal.to_send
    terminal.to_send = []
    return words
