"""What a terminal keeps from one call to the next."""

# What a command that goes on awaits.
NOTHING = 0
FIRST_WORD = 1
SENDER_STATUS = 2
DATA_WORD = 3

# For which commands a row of allowed counts is kept.
TO_RECEIVE = 0
TO_TRANSMIT = 1
TO_RECEIVE_TO_ALL = 2
LOW_MODES = 3
HIGH_MODES = 4

EVERY_COUNT = 0xFFFFFFFF
MODES_0_TO_8 = 0x000001FF
MODES_16_TO_21 = 0x003F0000


def allowed_at_the_beginning():
    """For each what, for each sub, the allowed counts as bits."""
    return [
        [EVERY_COUNT for sub in range(32)],
        [EVERY_COUNT for sub in range(32)],
        [EVERY_COUNT for sub in range(32)],
        [MODES_0_TO_8],
        [MODES_16_TO_21],
    ]


class Terminal:
    def __init__(self):
        self.begin_anew(0)

    def begin_anew(self, address):
        self.address = address
        self.flags = 0
        self.allowed = allowed_at_the_beginning()
        self.given = [[] for sub in range(32)]
        self.got = [[] for sub in range(32)]
        self.messages = 0
        self.errors = 0
        self.last_command = 0
        self.last_status = 0
        self.step = 0
        self.error = 0
        self.to_all = 0
        self.other_wire_off = 0
        self.hushed = 0
        self.to_send = []
        self.drop_command()

    def drop_command(self):
        self.awaited = NOTHING
        self.command = 0
        self.heard_at = 0
        self.sender = 0
        self.taken = []
