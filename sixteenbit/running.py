"""Runs the machine instruction by instruction."""

from sixteenbit.ends import ALL_DONE, AT_ODD_PLACE, NOT_ONE, NoInstruction, OddPlace
from sixteenbit.instructions import do_next


def run(machine, n):
    machine.why = ALL_DONE
    done = 0
    while done < n and machine.why == ALL_DONE:
        done += do_one(machine)
    return done


def do_one(machine):
    before = list(machine.registers)
    try:
        do_next(machine)
    except NoInstruction:
        machine.why = NOT_ONE
    except OddPlace:
        machine.why = AT_ODD_PLACE
    else:
        return 1
    machine.registers = before
    return 0
