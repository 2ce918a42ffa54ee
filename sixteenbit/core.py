"""The interface: the calls on one machine, answered one behind another."""

from sixteenbit.machine import Machine, REGISTER_COUNT, WORD_RANGE, lies_in_memory
from sixteenbit.reader import CallReader

PD_CLEAR = 1
PD_LOAD = 2
PD_LOOK = 3
PD_SET = 4

STATUS_WORD = 8

DONE = 0
REFUSED = -1


class UnknownCall(ValueError):
    pass


def answers(calls):
    machine = Machine()
    reader = CallReader(calls)
    given_back = []
    while reader.has_more():
        answer = answer_next(machine, reader)
        given_back.append(len(answer))
        given_back.extend(answer)
    return given_back


def answer_next(machine, reader):
    number = reader.take_number()
    if number == PD_CLEAR:
        return pd_clear(machine)
    if number == PD_LOAD:
        at = reader.take_number()
        data = reader.take_row()
        return pd_load(machine, at, data)
    if number == PD_LOOK:
        at = reader.take_number()
        n = reader.take_number()
        return pd_look(machine, at, n)
    if number == PD_SET:
        which = reader.take_number()
        value = reader.take_number()
        return pd_set(machine, which, value)
    raise UnknownCall(f"no call has the number {number}")


def pd_clear(machine):
    machine.reset()
    return [DONE]


def pd_load(machine, at, data):
    if not lies_in_memory(at, len(data)):
        return [REFUSED]
    machine.store_bytes(at, data)
    return [DONE]


def pd_look(machine, at, n):
    if not lies_in_memory(at, n):
        return [REFUSED]
    return [DONE] + machine.memory[at:at + n]


def pd_set(machine, which, value):
    word = value % WORD_RANGE
    if 0 <= which < REGISTER_COUNT:
        machine.registers[which] = word
    elif which == STATUS_WORD:
        machine.set_status(word)
    else:
        return [REFUSED]
    return [DONE]
