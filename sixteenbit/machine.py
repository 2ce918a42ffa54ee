"""The machine's state: registers, status and memory."""

MEMORY_SIZE = 65536
WORD_RANGE = 65536
REGISTER_COUNT = 8


class Machine:

    def __init__(self):
        self.reset()

    def reset(self):
        self.registers = [0] * REGISTER_COUNT
        self.memory = [0] * MEMORY_SIZE
        self.set_status(0)
        self.why = 0

    def set_status(self, word):
        # Only these bits are looked at, so the others can never come back out of the status word.
        # Flags are kept as 0 or 1, so that an instruction can reckon with them.
        self.priority = (word >> 5) & 7
        self.negative = (word >> 3) & 1
        self.zero = (word >> 2) & 1
        self.overflow = (word >> 1) & 1
        self.carry = word & 1

    def store_bytes(self, at, data):
        for offset, byte in enumerate(data):
            self.memory[at + offset] = byte


def lies_in_memory(at, n):
    # A stretch of no bytes may also stand just behind the last byte.
    return at >= 0 and n >= 0 and at + n <= MEMORY_SIZE
