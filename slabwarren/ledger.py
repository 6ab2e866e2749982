"""The ledger: the places of all objects and pages at a moment, told without an access."""

from slabwarren.allocating import class_cell
from slabwarren.reading import slot_cell
from slabwarren.stacks import PAGES, free_cell, items_of


def places_of_objects(world):
    """Return the pairs (object, word) of the objects in all places."""
    places = free_objects(world) + published_objects(world)
    for processor in world.processors:
        places.extend([(number, word) for word, number in processor.objects()])
        numbers, _ = in_hands(world, processor)
        places.extend([(number, "call") for number in numbers])
    return places


def places_of_pages(world):
    """Return the pairs (page, word) of the pages in all places."""
    places = [(page, "free") for page in items_of(world.memory, PAGES)]
    for processor in world.processors:
        _, pages = in_hands(world, processor)
        places.extend([(page, "call") for page in pages])
    return places


def is_sound(world):
    """Tell whether each object of a cut page and each page that is not cut is in exactly one place."""
    numbers = [number for number, _ in places_of_objects(world)]
    pages = [page for page, _ in places_of_pages(world)]
    return sorted(numbers) == objects_of_cut_pages(world) and sorted(pages) == uncut_pages(world)


def free_objects(world):
    """Return the pairs of the objects on the stacks of free objects, size by size."""
    sizes = range(len(world.layout.sizes))
    return [(number, "free") for size in sizes for number in items_of(world.memory, free_cell(size))]


def published_objects(world):
    """Return the pairs of the objects in the slots, in order."""
    values = [world.memory.peek(slot_cell(slot)) for slot in range(world.slots)]
    return [(value - 1, "published") for value in values if value != 0]


def in_hands(world, processor):
    """Return the objects and the pages that the call of a processor has in its hands."""
    if processor.running is None:
        return ([], [])
    return processor.running.holding(world.memory)


def objects_of_cut_pages(world):
    """Return the objects of all cut pages, in ascending order."""
    numbers = []
    for page in range(world.layout.pages):
        value = world.memory.peek(class_cell(page))
        if value != 0:
            numbers.extend(world.layout.objects(page, value - 1))
    return numbers


def uncut_pages(world):
    """Return the pages that are not cut, in ascending order."""
    return [page for page in range(world.layout.pages) if world.memory.peek(class_cell(page)) == 0]
