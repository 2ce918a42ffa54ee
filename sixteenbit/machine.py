"""The machine's state: registers, status and memory, and how words stand in memory and on the stack."""

from sixteenbit.ends import ALL_DONE, OddPlace

MEMORY_SIZE = 65536
WORD_RANGE = 65536
REGISTER_COUNT = 8
SP = 6
PC = 7


class Machine:

    def __init__(self):
        self.reset()

    def reset(self):
        self.registers = [0] * REGISTER_COUNT
        self.memory = [0] * MEMORY_SIZE
        self.set_status(0)
        self.why = ALL_DONE

    def set_status(self, word):
        # Only these bits are looked at, so the others can never come back out of the status word.
        # Flags are kept as 0 or 1, so that an instruction can reckon with them.
        self.priority = (word >> 5) & 7
        self.negative = (word >> 3) & 1
        self.zero = (word >> 2) & 1
        self.overflow = (word >> 1) & 1
        self.carry = word & 1

    def status_word(self):
        return self.priority * 32 + self.negative * 8 + self.zero * 4 + self.overflow * 2 + self.carry

    def set_flags(self, result, top, overflow, carry):
        self.negative = 1 if result & top else 0
        self.zero = 1 if result == 0 else 0
        self.overflow = overflow
        self.carry = carry

    def store_bytes(self, at, data):
        for offset, byte in enumerate(data):
            self.memory[at + offset] = byte

    def read_word(self, place):
        if place & 1:
            raise OddPlace(f"no word stands at {place}")
        return self.memory[place] | (self.memory[place + 1] << 8)

    def write_word(self, place, word):
        if place & 1:
            raise OddPlace(f"no word stands at {place}")
        self.memory[place] = word & 255
        self.memory[place + 1] = word >> 8

    def take_next_word(self):
        place = self.registers[PC]
        word = self.read_word(place)
        self.registers[PC] = (place + 2) % WORD_RANGE
        return word

    def push(self, word):
        place = (self.registers[SP] - 2) % WORD_RANGE
        # SP waits for the word, so that a push to an odd place changes nothing.
        self.write_word(place, word)
        self.registers[SP] = place

    def pull(self):
        place = self.registers[SP]
        word = self.read_word(place)
        self.registers[SP] = (place + 2) % WORD_RANGE
        return word

    def interrupt(self, vector):
        # Only the first push can come to an odd place: the second is two less, and every vector is even.
        self.push(self.status_word())
        self.push(self.registers[PC])
        self.registers[PC] = self.read_word(vector)
        self.set_status(self.read_word(vector + 2))


def lies_in_memory(at, n):
    # A stretch of no bytes may also stand just behind the last byte.
    return at >= 0 and n >= 0 and at + n <= MEMORY_SIZE
