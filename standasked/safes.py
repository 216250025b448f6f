"""The takes of a program, and the cheapest ones that, made safe, keep a limit."""

from standasked.askings import cheapest_choice
from standasked.errors import NoKept
from standasked.programs import check_program, instruction_at, is_choice, places_of, replaced


def takes(program):
    check_program(program)
    return places_of(program, "take")


def safe(program, chosen):
    if not is_choice(chosen, takes(program)):
        raise NoKept("chosen is a list of different takes")
    made = {(at, place): ("safe take", instruction_at(program, at, place)[1]) for at, place in chosen}
    return replaced(program, made)


def cheapest_safe(program, starts, prices, limit):
    return cheapest_choice(takes(program), safe, program, starts, prices, limit)
