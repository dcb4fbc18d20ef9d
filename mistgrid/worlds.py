"""Rolls and worlds: who may have what for one who knows all persons and some releases."""

from mistgrid.basics import is_name, is_tuple
from mistgrid.clues import all_clues, any_choice, clues_of, parts_of
from mistgrid.errors import NoWorld
from mistgrid.releases import is_release
from mistgrid.tables import are_ladders, are_publics

MOST_PERSONS = 8
MOST_KINDS = 6


def is_roll(thing):
    """Whether the thing, anything at all, is a roll."""
    if not is_tuple(thing, 3, 3):
        return False
    ladders, persons, kinds = thing
    if not are_ladders(ladders) or not is_tuple(persons, 1, MOST_PERSONS) or not _are_kinds(kinds):
        return False
    if not all(_is_person(ladders, person) for person in persons):
        return False
    return len({name for name, _ in persons}) == len(persons)


def fits(roll, world, releases):
    """Whether all things of the list, be they anything, are releases that fit the world."""
    return all(is_release(roll[0], thing) and _fits_one(roll, world, thing) for thing in releases)


def may_have(roll, releases):
    """The secrets that each person has in some world that fits, a dict of lists, or NoWorld."""
    return may_have_by(roll, all_clues(roll, releases))


def may_have_by(roll, clues):
    """What may_have tells, by the clues of the releases."""
    choices = any_choice(roll)
    found = [[] for _ in choices]
    for part in parts_of(roll, clues):
        layers = part.layers(choices)
        if layers is None:
            raise NoWorld("no world fits all the releases")
        for person, secrets in part.found(layers):
            found[person] = secrets
    return {name: secrets for (name, _), secrets in zip(roll[1], found)}


def _is_person(ladders, thing):
    return is_tuple(thing, 2, 2) and is_name(thing[0]) and are_publics(ladders, thing[1])


def _are_kinds(thing):
    if not is_tuple(thing, 1, MOST_KINDS) or not all(is_name(part) for part in thing):
        return False
    return all([one < other for one, other in zip(thing, thing[1:])])


def _fits_one(roll, world, release):
    return all([
        sorted([world[person] for person in members]) == list(secrets)
        for members, secrets in clues_of(roll, release)
    ])
