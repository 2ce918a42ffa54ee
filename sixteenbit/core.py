"""The interface: the calls on one machine, answered one behind another."""

from sixteenbit.ends import OddPlace
from sixteenbit.machine import Machine, REGISTER_COUNT, WORD_RANGE, lies_in_memory
from sixteenbit.reader import CallReader
from sixteenbit.running import run

PD_CLEAR = 1
PD_LOAD = 2
PD_LOOK = 3
PD_SET = 4
PD_GET = 5
PD_RUN = 6
PD_WHY = 7
PD_INTERRUPT = 8

STATUS_WORD = 8
LONGEST_RUN = 1000000
LAST_VECTOR = 508
VECTOR_SIZE = 4
HIGHEST_PRIORITY = 7

DONE = 0
REFUSED = -1
NOT_ABOVE = 0
INTERRUPTED = 1
STOPPED_AT_ODD_PLACE = -2


class UnknownCall(ValueError):
    pass


def answers(calls):
    machine = Machine()
    reader = CallReader(calls)
    given_back = []
    while reader.has_more():
        answer = answer_next(machine, reader)
        given_back.append(len(answer))
        given_back.extend(answer)
    return given_back


def answer_next(machine, reader):
    number = reader.take_number()
    if number == PD_CLEAR:
        return pd_clear(machine)
    if number == PD_LOAD:
        at = reader.take_number()
        data = reader.take_row()
        return pd_load(machine, at, data)
    if number == PD_LOOK:
        at = reader.take_number()
        n = reader.take_number()
        return pd_look(machine, at, n)
    if number == PD_SET:
        which = reader.take_number()
        value = reader.take_number()
        return pd_set(machine, which, value)
    if number == PD_GET:
        return pd_get(machine, reader.take_number())
    if number == PD_RUN:
        return pd_run(machine, reader.take_number())
    if number == PD_WHY:
        return pd_why(machine)
    if number == PD_INTERRUPT:
        vector = reader.take_number()
        priority = reader.take_number()
        return pd_interrupt(machine, vector, priority)
    raise UnknownCall(f"no call has the number {number}")


def pd_clear(machine):
    machine.reset()
    return [DONE]


def pd_load(machine, at, data):
    if not lies_in_memory(at, len(data)):
        return [REFUSED]
    machine.store_bytes(at, data)
    return [DONE]


def pd_look(machine, at, n):
    if not lies_in_memory(at, n):
        return [REFUSED]
    return [DONE] + machine.memory[at:at + n]


def pd_set(machine, which, value):
    word = value % WORD_RANGE
    if 0 <= which < REGISTER_COUNT:
        machine.registers[which] = word
    elif which == STATUS_WORD:
        machine.set_status(word)
    else:
        return [REFUSED]
    return [DONE]


def pd_get(machine, which):
    if 0 <= which < REGISTER_COUNT:
        return [machine.registers[which]]
    if which == STATUS_WORD:
        return [machine.status_word()]
    return [REFUSED]


def pd_run(machine, n):
    if not 0 <= n <= LONGEST_RUN:
        return [REFUSED]
    return [run(machine, n)]


def pd_why(machine):
    return [machine.why]


def pd_interrupt(machine, vector, priority):
    if not (0 <= vector <= LAST_VECTOR and vector % VECTOR_SIZE == 0):
        return [REFUSED]
    if not 0 <= priority <= HIGHEST_PRIORITY:
        return [REFUSED]
    if priority <= machine.priority:
        return [NOT_ABOVE]
    try:
        machine.interrupt(vector)
    except OddPlace:
        # The first push failed, which changes nothing: so there's nothing to put back.
        return [STOPPED_AT_ODD_PLACE]
    return [INTERRUPTED]
