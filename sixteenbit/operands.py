"""The eight ways to tell an operand, and how it's taken and changed.

A told operand is one number: a place of memory, or behind these REGISTER_PLACES and a register's number.
Whether an instruction is on words or on bytes is said by top, the value of their highest bit.
"""

from sixteenbit.machine import SP, WORD_RANGE

WORD_TOP = 32768
BYTE_TOP = 128

REGISTER_PLACES = 65536
UPPER_BYTE = 65280


def place_at(machine, r, step):
    return machine.registers[r]


def place_then_step(machine, r, step):
    place = machine.registers[r]
    machine.registers[r] = (place + step) % WORD_RANGE
    return place


def step_then_place(machine, r, step):
    place = (machine.registers[r] - step) % WORD_RANGE
    machine.registers[r] = place
    return place


def place_by_next_word(machine, r, step):
    # The word is taken first: where R is PC, it's PC behind that word that counts.
    word = machine.take_next_word()
    return (machine.registers[r] + word) % WORD_RANGE


# Ways 1, 2 and 3, 4 and 5, 6 and 7.
PLACES = (place_at, place_then_step, step_then_place, place_by_next_word)


def tell(machine, bits, top):
    way = bits >> 3
    r = bits & 7
    if way == 0:
        return REGISTER_PLACES + r
    # Ways 3, 5 and 7 are 2, 4 and 6 of a word, which then says the place.
    is_by_word = way == 3 or way == 5 or way == 7
    step = 1 if top == BYTE_TOP and r < SP and not is_by_word else 2
    place = PLACES[way >> 1](machine, r, step)
    return machine.read_word(place) if is_by_word else place


def take(machine, operand, top):
    if operand >= REGISTER_PLACES:
        word = machine.registers[operand - REGISTER_PLACES]
        return word & 255 if top == BYTE_TOP else word
    if top == BYTE_TOP:
        return machine.memory[operand]
    return machine.read_word(operand)


def put(machine, operand, top, value):
    if operand >= REGISTER_PLACES:
        r = operand - REGISTER_PLACES
        kept = machine.registers[r] & UPPER_BYTE if top == BYTE_TOP else 0
        machine.registers[r] = kept | value
    elif top == BYTE_TOP:
        machine.memory[operand] = value
    else:
        machine.write_word(operand, value)
