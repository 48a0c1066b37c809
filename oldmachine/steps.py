"""Orders done one after another, as many as a run allows or until something hinders the next one."""

from oldmachine.letters import SIGNS
from oldmachine.machine import PLACES, REFUSED
from oldmachine.orders import DEEDS

MOST_STEPS = 1000000
MOST_UNTAKEN = 65536
ALL_DONE = 0
STOPPED = 1
NO_SIGN = 2
NO_ORDER = 3
TOO_MUCH_PRINTED = 4


def run(machine, steps):
    if not 0 <= steps <= MOST_STEPS:
        return [REFUSED]
    if machine.stopped and steps > 0:
        return [STOPPED, 0]
    for done in range(steps):
        order = machine.short_words[machine.next_place]
        sign = SIGNS[order >> 12]
        hindrance = what_hinders(machine, sign)
        if hindrance != ALL_DONE:
            return [hindrance, done]
        # E and G put their own place over this one.
        machine.next_place = (machine.next_place + 1) % PLACES
        DEEDS[sign](machine, order)
        if machine.stopped:
            return [STOPPED, done + 1]
    return [ALL_DONE, steps]


def what_hinders(machine, sign):
    if len(machine.printed) > MOST_UNTAKEN:
        return TOO_MUCH_PRINTED
    if sign not in DEEDS:
        return NO_ORDER
    if sign == "I" and len(machine.tape) == 0:
        return NO_SIGN
    return ALL_DONE
