"""The mode commands."""

from busterminal.replies import is_busy, may_hand_over_control, reply, reply_error, send, status_of
from busterminal.state import HIGH_MODES, LOW_MODES
from busterminal.words import bit_of, count_of, is_mode, is_to_all, is_to_transmit

TAKE_CONTROL = 0
SYNCHRONIZE = 1
REPEAT_STATUS = 2
OTHER_WIRE_OFF = 4
OTHER_WIRE_ON = 5
HUSH_FAULT = 6
SHOW_FAULT = 7
RESET = 8
FIRST_HIGH_MODE = 16
SERVICE_WORD = 16
SET_STEP = 17
REPEAT_COMMAND = 18
TEST_WORD = 19
CHOSEN_WIRE_OFF = 20
CHOSEN_WIRE_ON = 21


def is_mode_allowed(terminal, code):
    what = LOW_MODES if code < FIRST_HIGH_MODE else HIGH_MODES
    return bit_of(terminal.allowed[what][0], code) == 1


def asks_what_was_before(command):
    """Whether the command asks for the last status or command, so that both must outlast it."""
    return is_mode(command) and not is_to_all(command) and count_of(command) in (REPEAT_STATUS, REPEAT_COMMAND)


def sends_a_word(command):
    return is_to_transmit(command) and count_of(command) in (SERVICE_WORD, REPEAT_COMMAND, TEST_WORD)


def takes_a_word(command):
    return not is_to_transmit(command) and count_of(command) in (SET_STEP, CHOSEN_WIRE_OFF, CHOSEN_WIRE_ON)


def do_mode(terminal, command):
    """A mode command that awaits no data word."""
    if count_of(command) < FIRST_HIGH_MODE:
        do_low_mode(terminal, command)
    elif sends_a_word(command):
        do_sending_mode(terminal, command)
    else:
        reply_error(terminal, command)


def is_low_mode_in_order(terminal, command):
    code = count_of(command)
    if is_to_all(command) and code in (TAKE_CONTROL, REPEAT_STATUS):
        return False
    return is_to_transmit(command) and is_mode_allowed(terminal, code)


def do_low_mode(terminal, command):
    code = count_of(command)
    if not is_low_mode_in_order(terminal, command):
        reply_error(terminal, command)
    elif code == REPEAT_STATUS:
        send(terminal, terminal.last_status, [])
    elif code == TAKE_CONTROL:
        control_taken = 1 if may_hand_over_control(terminal) else 0
        send(terminal, status_of(terminal, control_taken), [])
    else:
        change_by_low_mode(terminal, code)
        reply(terminal, command, [])


def change_by_low_mode(terminal, code):
    if code == SYNCHRONIZE:
        terminal.step = 0
    if code == OTHER_WIRE_OFF:
        terminal.other_wire_off = 1
    if code in (OTHER_WIRE_ON, RESET):
        terminal.other_wire_off = 0
    if code == HUSH_FAULT:
        terminal.hushed = 1
    if code in (SHOW_FAULT, RESET):
        terminal.hushed = 0


def do_sending_mode(terminal, command):
    code = count_of(command)
    if is_to_all(command) or not is_mode_allowed(terminal, code):
        reply_error(terminal, command)
    elif code == REPEAT_COMMAND:
        reply(terminal, command, [terminal.last_command])
    elif is_busy(terminal):
        reply(terminal, command, [])
    else:
        sub = 0 if code == SERVICE_WORD else 31
        reply(terminal, command, [first_given(terminal, sub)])


def first_given(terminal, sub):
    given = terminal.given[sub]
    if len(given) == 0:
        return 0
    return given[0]


def finish_taking_mode(terminal, command, word):
    """A mode command whose data word has come."""
    code = count_of(command)
    if not is_mode_allowed(terminal, code):
        terminal.error = 1
    elif code == SET_STEP:
        terminal.step = word
    elif word == 1:
        terminal.other_wire_off = 1 if code == CHOSEN_WIRE_OFF else 0
    reply(terminal, command, [])
