"""What each instruction does.

An instruction is a function of the machine and the word w, with PC already behind w. Flags and memory are changed
only when no odd place can come any more: so registers are all that has to be put back where one did come.
"""

from sixteenbit.arithmetic import ONE_OPERAND, TWO_OPERANDS, divided, moved, signed
from sixteenbit.ends import HALTED, NoInstruction, OddPlace, WAITING
from sixteenbit.machine import PC, SP, WORD_RANGE
from sixteenbit.operands import BYTE_TOP, REGISTER_PLACES, WORD_TOP, put, take, tell

PAIR_TOP = 2147483648
PAIR_RANGE = 4294967296
UPPER_BITS = 16

CMP = 2
BIT = 3
MOVB = 9
SUB = 14

FRAME = 5

BREAK_VECTOR = 12
OUTPUT_VECTOR = 16
EMULATOR_VECTOR = 24
TRAP_VECTOR = 28


def two_operands(machine, w):
    code = w >> 12
    top = BYTE_TOP if code > 7 and code != SUB else WORD_TOP
    s = take(machine, tell(machine, (w >> 6) & 63, top), top)
    operand = tell(machine, w & 63, top)
    d = take(machine, operand, top)
    outcome = TWO_OPERANDS[code](s, d, machine.carry, top)
    result = outcome[0]
    if code == MOVB and operand >= REGISTER_PLACES:
        put(machine, operand, WORD_TOP, signed(result, BYTE_TOP) % WORD_RANGE)
    elif (code & 7) != CMP and (code & 7) != BIT:
        put(machine, operand, top, result)
    machine.set_flags(result, top, outcome[1], outcome[2])


def one_operand(machine, w):
    top = BYTE_TOP if w >> 15 else WORD_TOP
    operand = tell(machine, w & 63, top)
    d = take(machine, operand, top)
    outcome = ONE_OPERAND[(w >> 6) & 511](d, machine.carry, top)
    put(machine, operand, top, outcome[0])
    machine.set_flags(outcome[0], top, outcome[1], outcome[2])


def swap_bytes(machine, w):
    operand = tell(machine, w & 63, WORD_TOP)
    d = take(machine, operand, WORD_TOP)
    put(machine, operand, WORD_TOP, ((d & 255) << 8) | (d >> 8))
    machine.set_flags(d >> 8, BYTE_TOP, 0, 0)


def extend_sign(machine, w):
    operand = tell(machine, w & 63, WORD_TOP)
    result = machine.negative * (WORD_RANGE - 1)
    put(machine, operand, WORD_TOP, result)
    machine.set_flags(result, WORD_TOP, 0, machine.carry)


def exclusive_or(machine, w):
    operand = tell(machine, w & 63, WORD_TOP)
    result = take(machine, operand, WORD_TOP) ^ machine.registers[(w >> 6) & 7]
    put(machine, operand, WORD_TOP, result)
    machine.set_flags(result, WORD_TOP, 0, machine.carry)


def take_source(machine, w):
    return take(machine, tell(machine, w & 63, WORD_TOP), WORD_TOP)


def even_number(w):
    r = (w >> 6) & 7
    if r & 1:
        raise NoInstruction(f"R{r} has no pair")
    return r


def take_pair(machine, r):
    return (machine.registers[r] << UPPER_BITS) | machine.registers[r + 1]


def put_pair(machine, r, value):
    machine.registers[r] = value >> UPPER_BITS
    machine.registers[r + 1] = value % WORD_RANGE


def is_within_word(number):
    return -WORD_TOP <= number < WORD_TOP


def multiply(machine, w):
    s = signed(take_source(machine, w), WORD_TOP)
    r = (w >> 6) & 7
    product = signed(machine.registers[r], WORD_TOP) * s
    pair = product % PAIR_RANGE
    if r & 1:
        machine.registers[r] = pair % WORD_RANGE
    else:
        put_pair(machine, r, pair)
    machine.set_flags(pair, PAIR_TOP, 0, 0 if is_within_word(product) else 1)


def divide(machine, w):
    r = even_number(w)
    s = signed(take_source(machine, w), WORD_TOP)
    if s == 0:
        machine.overflow = 1
        machine.carry = 1
        return
    parts = divided(signed(take_pair(machine, r), PAIR_TOP), s)
    if not is_within_word(parts[0]):
        machine.overflow = 1
        machine.carry = 0
        return
    quotient = parts[0] % WORD_RANGE
    machine.registers[r] = quotient
    machine.registers[r + 1] = parts[1] % WORD_RANGE
    machine.set_flags(quotient, WORD_TOP, 0, 0)


def take_shift(machine, w):
    bits = take_source(machine, w) & 63
    return bits - 64 if bits & 32 else bits


def shift_word(machine, w):
    by = take_shift(machine, w)
    r = (w >> 6) & 7
    outcome = moved(machine.registers[r], by, WORD_TOP)
    machine.registers[r] = outcome[0]
    machine.set_flags(outcome[0], WORD_TOP, outcome[1], outcome[2])


def shift_pair(machine, w):
    r = even_number(w)
    by = take_shift(machine, w)
    outcome = moved(take_pair(machine, r), by, PAIR_TOP)
    put_pair(machine, r, outcome[0])
    machine.set_flags(outcome[0], PAIR_TOP, outcome[1], outcome[2])


def move_pc(machine, distance):
    machine.registers[PC] = (machine.registers[PC] + distance) % WORD_RANGE


def count_down(machine, w):
    r = (w >> 6) & 7
    rest = (machine.registers[r] - 1) % WORD_RANGE
    machine.registers[r] = rest
    if rest != 0:
        move_pc(machine, -2 * (w & 63))


def always(machine):
    return 1


def is_zero(machine):
    return machine.zero


def is_less(machine):
    return machine.negative ^ machine.overflow


def is_less_or_zero(machine):
    return machine.zero | (machine.negative ^ machine.overflow)


def is_negative(machine):
    return machine.negative


def is_carry_or_zero(machine):
    return machine.carry | machine.zero


def is_overflow(machine):
    return machine.overflow


def is_carry(machine):
    return machine.carry


# Branches stand in pairs: w's bit 8 says what the condition has to be.
CONDITIONS = {
    0o000: always, 0o001: is_zero, 0o002: is_less, 0o003: is_less_or_zero,
    0o100: is_negative, 0o101: is_carry_or_zero, 0o102: is_overflow, 0o103: is_carry,
}


def branch(machine, w):
    if CONDITIONS[w >> 9](machine) == (w >> 8) & 1:
        move_pc(machine, 2 * signed(w & 255, BYTE_TOP))


def tell_place(machine, w):
    if (w & 63) < 8:
        raise NoInstruction("a register is no place to go on at")
    place = tell(machine, w & 63, WORD_TOP)
    if place & 1:
        raise OddPlace(f"no instruction stands at {place}")
    return place


def jump(machine, w):
    machine.registers[PC] = tell_place(machine, w)


def jump_to_subroutine(machine, w):
    place = tell_place(machine, w)
    r = (w >> 6) & 7
    machine.push(machine.registers[r])
    machine.registers[r] = machine.registers[PC]
    machine.registers[PC] = place


def return_from_subroutine(machine, w):
    r = w & 7
    machine.registers[PC] = machine.registers[r]
    # Behind the pull's own change of SP, as R may be SP.
    word = machine.pull()
    machine.registers[r] = word


def mark(machine, w):
    machine.registers[SP] = (machine.registers[PC] + 2 * (w & 63)) % WORD_RANGE
    machine.registers[PC] = machine.registers[FRAME]
    machine.registers[FRAME] = machine.pull()


def change_flags(machine, w):
    bits = w & 15
    if w & 16:
        machine.set_status(machine.status_word() | bits)
    else:
        machine.set_status(machine.status_word() & ~bits)


def halt(machine, w):
    machine.why = HALTED


def wait(machine, w):
    machine.why = WAITING


def return_from_interrupt(machine, w):
    machine.registers[PC] = machine.pull()
    machine.set_status(machine.pull())


def do_nothing(machine, w):
    pass


def break_point(machine, w):
    machine.interrupt(BREAK_VECTOR)


def output_trap(machine, w):
    machine.interrupt(OUTPUT_VECTOR)


def emulator_trap(machine, w):
    machine.interrupt(EMULATOR_VECTOR)


def trap(machine, w):
    machine.interrupt(TRAP_VECTOR)


BY_TWO_DIGITS = {
    0o01: two_operands, 0o02: two_operands, 0o03: two_operands, 0o04: two_operands, 0o05: two_operands,
    0o06: two_operands, 0o11: two_operands, 0o12: two_operands, 0o13: two_operands, 0o14: two_operands,
    0o15: two_operands, 0o16: two_operands,
}

BY_UPPER_BYTE = {
    0o001: branch, 0o002: branch, 0o003: branch, 0o004: branch, 0o005: branch, 0o006: branch, 0o007: branch,
    0o200: branch, 0o201: branch, 0o202: branch, 0o203: branch, 0o204: branch, 0o205: branch, 0o206: branch,
    0o207: branch, 0o210: emulator_trap, 0o211: trap,
}

BY_FOUR_DIGITS = {
    0o0001: jump, 0o0003: swap_bytes, 0o0064: mark, 0o0067: extend_sign,
    0o0050: one_operand, 0o0051: one_operand, 0o0052: one_operand, 0o0053: one_operand, 0o0054: one_operand,
    0o0055: one_operand, 0o0056: one_operand, 0o0057: one_operand, 0o0060: one_operand, 0o0061: one_operand,
    0o0062: one_operand, 0o0063: one_operand,
    0o1050: one_operand, 0o1051: one_operand, 0o1052: one_operand, 0o1053: one_operand, 0o1054: one_operand,
    0o1055: one_operand, 0o1056: one_operand, 0o1057: one_operand, 0o1060: one_operand, 0o1061: one_operand,
    0o1062: one_operand, 0o1063: one_operand,
}

BY_THREE_DIGITS = {
    0o004: jump_to_subroutine, 0o070: multiply, 0o071: divide, 0o072: shift_word, 0o073: shift_pair,
    0o074: exclusive_or, 0o077: count_down,
}

BY_FIVE_DIGITS = {
    0o00020: return_from_subroutine,
    0o00024: change_flags, 0o00025: change_flags, 0o00026: change_flags, 0o00027: change_flags,
}

BY_WHOLE_WORD = {
    0o000000: halt, 0o000001: wait, 0o000002: return_from_interrupt, 0o000003: break_point, 0o000004: output_trap,
    0o000005: do_nothing, 0o000006: return_from_interrupt,
}


def find_work(w):
    # No word stands in two of the tables, so their order is only that of how often they're asked.
    work = BY_TWO_DIGITS.get(w >> 12)
    if work is None:
        work = BY_UPPER_BYTE.get(w >> 8)
    if work is None:
        work = BY_FOUR_DIGITS.get(w >> 6)
    if work is None:
        work = BY_THREE_DIGITS.get(w >> 9)
    if work is None:
        work = BY_FIVE_DIGITS.get(w >> 3)
    if work is None:
        work = BY_WHOLE_WORD.get(w)
    if work is None:
        raise NoInstruction(f"the word {w} is no instruction")
    return work


def do_next(machine):
    w = machine.take_next_word()
    work = find_work(w)
    work(machine, w)
