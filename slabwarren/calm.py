"""Calm: all calls come to their ends, and everything is given back, by events alone."""

from slabwarren.stacks import PAGES, items_of


def finish_calls(world):
    """Do steps of each processor, in order, until it has no call."""
    for number in range(len(world.processors)):
        while world.processors[number].running is not None:
            world.do(("step", number))


def give_everything_back(world):
    """Give back all objects and pages, and return the number of free pages at the end."""
    finish_calls(world)
    for slot in range(world.slots):
        do_call(world, ("call", 0, "unpublish", slot))
    for number in range(len(world.processors)):
        do_call(world, ("call", number, "leave"))
    for number in range(len(world.processors)):
        empty_processor(world, number)
    for size in range(len(world.layout.sizes)):
        do_call(world, ("call", 0, "trim", size))
    return len(items_of(world.memory, PAGES))


def do_call(world, event):
    """Do a call from its beginning to its end; no other call is under way."""
    world.do(event)
    finish_calls(world)


def empty_processor(world, number):
    """Let a processor give back all that it has."""
    processor = world.processors[number]
    while processor.held:
        do_call(world, ("call", number, "give", 0))
    while processor.unlinked:
        do_call(world, ("call", number, "retire", 0))
    do_call(world, ("call", number, "sweep"))
    for size in range(len(world.layout.sizes)):
        do_call(world, ("call", number, "flush", size))
