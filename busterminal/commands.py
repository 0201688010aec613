"""What the words that come do to a terminal."""

from busterminal.modes import asks_what_was_before, do_mode, finish_taking_mode, takes_a_word
from busterminal.replies import is_busy, reply, reply_error
from busterminal.state import DATA_WORD, FIRST_WORD, NOTHING, SENDER_STATUS
from busterminal.state import TO_RECEIVE, TO_RECEIVE_TO_ALL, TO_TRANSMIT
from busterminal.words import COMMAND_SYNC, DATA_SYNC, address_of, bit_of, count_of, how_many_words
from busterminal.words import is_mode, is_to_all, is_to_transmit, sub_of, time_between

SHORTEST_GAP = 20
LONGEST_GAP = 23
LONGEST_STATUS_GAP = 57
COUNTER_SPAN = 65536


def hear(terminal, sync, word, is_good, now):
    notice_silence(terminal, now)
    if is_good and sync == COMMAND_SYNC and is_for(terminal, word):
        begin_command(terminal, word, now)
    elif terminal.awaited != NOTHING:
        hear_awaited(terminal, sync, word, is_good, now)


def is_for(terminal, command):
    return is_to_all(command) or address_of(command) == terminal.address


def notice_silence(terminal, now):
    """Fails the command that goes on if what it awaits can't come in time any more."""
    longest = LONGEST_STATUS_GAP if terminal.awaited == SENDER_STATUS else LONGEST_GAP
    if terminal.awaited != NOTHING and time_between(terminal.heard_at, now) > longest:
        fail(terminal)


def fail(terminal):
    count_error(terminal)
    terminal.drop_command()


def count_error(terminal):
    terminal.error = 1
    terminal.errors = (terminal.errors + 1) % COUNTER_SPAN


def begin_command(terminal, command, now):
    terminal.drop_command()
    if not asks_what_was_before(command):
        terminal.last_command = command
        terminal.error = 0
        terminal.to_all = 1 if is_to_all(command) else 0
    if is_mode(command) and takes_a_word(command):
        await_words(terminal, command, DATA_WORD, now)
    elif is_mode(command):
        do_mode(terminal, command)
    elif is_to_transmit(command):
        transmit(terminal, command)
    else:
        await_words(terminal, command, FIRST_WORD, now)


def await_words(terminal, command, awaited, now):
    terminal.awaited = awaited
    terminal.command = command
    terminal.heard_at = now


def hear_awaited(terminal, sync, word, is_good, now):
    """A word that begins no command; that it isn't late has been seen."""
    if not is_good or time_between(terminal.heard_at, now) < SHORTEST_GAP:
        fail(terminal)
    elif sync == DATA_SYNC:
        hear_data(terminal, word, now)
    else:
        hear_another_terminal(terminal, word, now)


def hear_data(terminal, word, now):
    if terminal.awaited == SENDER_STATUS:
        fail(terminal)
    else:
        terminal.taken.append(word)
        terminal.awaited = DATA_WORD
        terminal.heard_at = now
        finish_if_all_there(terminal)


def hear_another_terminal(terminal, word, now):
    """A command to another terminal or its status: those to this one and to all begin a command."""
    if terminal.awaited == FIRST_WORD and is_to_transmit(word):
        terminal.sender = address_of(word)
        terminal.awaited = SENDER_STATUS
        terminal.heard_at = now
    elif terminal.awaited == SENDER_STATUS and address_of(word) == terminal.sender:
        terminal.awaited = DATA_WORD
        terminal.heard_at = now
    else:
        fail(terminal)


def finish_if_all_there(terminal):
    command = terminal.command
    taken = terminal.taken
    if is_mode(command):
        terminal.drop_command()
        finish_taking_mode(terminal, command, taken[0])
    elif len(taken) == how_many_words(command):
        terminal.drop_command()
        finish_receiving(terminal, command, taken)


def is_allowed(terminal, what, command):
    return bit_of(terminal.allowed[what][sub_of(command)], count_of(command)) == 1


def finish_receiving(terminal, command, words):
    what = TO_RECEIVE_TO_ALL if is_to_all(command) else TO_RECEIVE
    if not is_allowed(terminal, what, command):
        terminal.error = 1
    elif not is_busy(terminal):
        terminal.got[sub_of(command)] = words
        terminal.messages = (terminal.messages + 1) % COUNTER_SPAN
    reply(terminal, command, [])


def transmit(terminal, command):
    if is_to_all(command):
        count_error(terminal)
    elif not is_allowed(terminal, TO_TRANSMIT, command):
        reply_error(terminal, command)
    elif is_busy(terminal):
        reply(terminal, command, [])
    else:
        reply(terminal, command, words_to_transmit(terminal, command))


def words_to_transmit(terminal, command):
    wanted = how_many_words(command)
    words = terminal.given[sub_of(command)][:wanted]
    while len(words) < wanted:
        words.append(0)
    return words
