import unittest

from playing import ToldMemory, each_weaving, lay, play, step
from slabwarren import stacks as stacks_file
from slabwarren.memory import Memory
from slabwarren.stacks import PAGES, Pop, Push, TakeAll, free_cell, head_value, items_of, next_cell

HEAD = free_cell(0)


def below(item):
    return ("object below", item)


def stack_of(items, tag=0):
    memory = ToldMemory()
    lay(memory, HEAD, items, tag)
    return memory


class NameTest(unittest.TestCase):
    def test_heads(self):
        self.assertEqual(PAGES, ("pages",))
        self.assertEqual([free_cell(size) for size in (0, 1, 12)], [("free", 0), ("free", 1), ("free", 12)])

    def test_cells_of_items(self):
        self.assertEqual(next_cell(PAGES, 0), ("page below", 0))
        self.assertEqual(next_cell(PAGES, 7), ("page below", 7))
        self.assertEqual(next_cell(free_cell(0), 7), ("object below", 7))
        self.assertEqual(next_cell(free_cell(3), 0), ("object below", 0))

    def test_a_page_is_told_by_the_value_of_its_head(self):
        self.assertEqual(next_cell(tuple(["pages"]), 2), ("page below", 2))

    def test_head_value(self):
        self.assertEqual(head_value(0), (0, 0))
        self.assertEqual(head_value((0, 0)), (0, 0))
        self.assertEqual(head_value((0, 5)), (0, 5))
        self.assertEqual(head_value((8, 1)), (8, 1))


class ItemsTest(unittest.TestCase):
    def test_no_items(self):
        memory = Memory()
        self.assertEqual(items_of(memory, HEAD), [])
        memory.set_up(HEAD, (0, 4))
        self.assertEqual(items_of(memory, HEAD), [])

    def test_the_topmost_comes_first(self):
        memory = stack_of([4, 0, 9], 6)
        self.assertEqual(items_of(memory, HEAD), [4, 0, 9])

    def test_it_makes_no_access(self):
        memory = stack_of([4, 0, 9])
        items_of(memory, HEAD)
        self.assertEqual((memory.accesses, memory.told), (0, []))

    def test_each_call_returns_a_list_of_its_own(self):
        memory = stack_of([4, 0])
        items_of(memory, HEAD).append(99)
        self.assertEqual(items_of(memory, HEAD), [4, 0])

    def test_a_stack_that_leads_back_to_an_item_tells_it_twice(self):
        for items, found in (([4], [4, 4]), ([4, 0, 9], [4, 0, 9, 0])):
            memory = stack_of(items)
            memory.set_up(below(items[-1]), found[-1] + 1)
            self.assertEqual(items_of(memory, HEAD), found)

    def test_stacks_do_not_touch_each_other(self):
        memory = Memory()
        lay(memory, PAGES, [0, 1, 2])
        lay(memory, free_cell(0), [1, 0])
        lay(memory, free_cell(1), [2, 5])
        self.assertEqual(items_of(memory, PAGES), [0, 1, 2])
        self.assertEqual(items_of(memory, free_cell(0)), [1, 0])
        self.assertEqual(items_of(memory, free_cell(1)), [2, 5])


class PopTest(unittest.TestCase):
    def test_fields_at_first(self):
        pop = Pop(HEAD)
        self.assertEqual((pop.done, pop.result, pop.raw), (False, None, None))

    def test_a_head_that_was_never_changed(self):
        memory, pop = ToldMemory(), Pop(HEAD)
        step(pop, memory)
        self.assertEqual((pop.done, pop.result, pop.raw), (True, None, 0))
        self.assertEqual(memory.told, [("read", HEAD, 0)])
        self.assertEqual(memory.peek(HEAD), 0)

    def test_an_empty_stack_that_was_in_use(self):
        memory, pop = stack_of([], 4), Pop(HEAD)
        step(pop, memory)
        self.assertEqual((pop.done, pop.result, pop.raw), (True, None, (0, 4)))
        self.assertEqual(memory.peek(HEAD), (0, 4))

    def test_its_accesses(self):
        memory, pop = stack_of([4, 9], 6), Pop(HEAD)
        self.assertEqual(play(pop, memory), 3)
        self.assertEqual(memory.told, [
            ("read", HEAD, (5, 6)), ("read", below(4), 10), ("swap", HEAD, (5, 6), (10, 7), True)])
        self.assertEqual((pop.result, pop.raw, items_of(memory, HEAD)), (4, (5, 6), [9]))

    def test_it_is_done_with_the_swap_only(self):
        memory, pop = stack_of([4, 9]), Pop(HEAD)
        for _ in range(2):
            step(pop, memory)
            self.assertEqual((pop.done, pop.result, pop.raw), (False, None, (5, 0)))
            self.assertEqual(items_of(memory, HEAD), [4, 9])

    def test_the_last_item(self):
        memory, pop = stack_of([0], 2), Pop(HEAD)
        play(pop, memory)
        self.assertEqual((pop.result, memory.peek(HEAD)), (0, (0, 3)))

    def test_a_page(self):
        memory, pop = ToldMemory(), Pop(PAGES)
        lay(memory, PAGES, [0, 2])
        memory.set_up(below(0), 9)
        play(pop, memory)
        self.assertEqual((pop.result, items_of(memory, PAGES)), (0, [2]))
        self.assertEqual(memory.told[1], ("read", ("page below", 0), 3))

    def test_a_swap_that_fails_begins_anew(self):
        memory, pop = stack_of([4, 9], 6), Pop(HEAD)
        step(pop, memory)
        step(pop, memory)
        lay(memory, HEAD, [3, 4, 9], 7)
        step(pop, memory)
        self.assertEqual((pop.done, pop.result, pop.raw), (False, None, (5, 6)))
        self.assertEqual(memory.peek(HEAD), (4, 7))
        self.assertEqual(play(pop, memory), 3)
        self.assertEqual(memory.told[2:], [
            ("swap", HEAD, (5, 6), (10, 7), False),
            ("read", HEAD, (4, 7)), ("read", below(3), 5), ("swap", HEAD, (4, 7), (5, 8), True)])
        self.assertEqual((pop.result, pop.raw), (3, (4, 7)))

    def test_it_may_find_nothing_when_it_begins_anew(self):
        memory, pop = stack_of([4], 6), Pop(HEAD)
        step(pop, memory)
        step(pop, memory)
        lay(memory, HEAD, [], 7)
        step(pop, memory)
        self.assertFalse(pop.done)
        step(pop, memory)
        self.assertEqual((pop.done, pop.result, pop.raw), (True, None, (0, 7)))

    def test_an_old_top_with_another_tag_makes_the_swap_fail(self):
        memory, slow = stack_of([4, 9, 2]), Pop(HEAD)
        step(slow, memory)
        step(slow, memory)
        for machine in (Pop(HEAD), Pop(HEAD), Push(HEAD, 4)):
            play(machine, memory)
        self.assertEqual((memory.peek(HEAD), items_of(memory, HEAD)), ((5, 3), [4, 2]))
        step(slow, memory)
        self.assertEqual((slow.done, slow.result), (False, None))
        self.assertEqual(items_of(memory, HEAD), [4, 2])
        self.assertEqual(play(slow, memory), 3)
        self.assertEqual((slow.result, items_of(memory, HEAD)), (4, [2]))


class PushTest(unittest.TestCase):
    def test_field_at_first(self):
        self.assertIs(Push(HEAD, 7).done, False)

    def test_the_first_change_of_a_head_makes_the_tag_1(self):
        memory, push = ToldMemory(), Push(HEAD, 7)
        self.assertEqual(play(push, memory), 3)
        self.assertEqual(memory.told, [
            ("read", HEAD, 0), ("write", below(7), 0), ("swap", HEAD, 0, (8, 1), True)])
        self.assertEqual((memory.peek(HEAD), items_of(memory, HEAD)), ((8, 1), [7]))

    def test_its_accesses(self):
        memory, push = stack_of([4, 9], 6), Push(HEAD, 0)
        self.assertEqual(play(push, memory), 3)
        self.assertEqual(memory.told, [
            ("read", HEAD, (5, 6)), ("write", below(0), 5), ("swap", HEAD, (5, 6), (1, 7), True)])
        self.assertEqual(items_of(memory, HEAD), [0, 4, 9])

    def test_it_is_done_with_the_swap_only(self):
        memory, push = stack_of([4]), Push(HEAD, 7)
        for _ in range(2):
            step(push, memory)
            self.assertEqual((push.done, items_of(memory, HEAD)), (False, [4]))
        step(push, memory)
        self.assertEqual((push.done, items_of(memory, HEAD)), (True, [7, 4]))

    def test_a_page(self):
        memory = ToldMemory()
        for page in (2, 0):
            play(Push(PAGES, page), memory)
        self.assertEqual((memory.peek(PAGES), items_of(memory, PAGES)), ((1, 2), [0, 2]))
        self.assertEqual((memory.peek(("page below", 0)), memory.peek(below(0))), (3, 0))

    def test_a_swap_that_fails_begins_anew(self):
        memory, push = stack_of([4], 6), Push(HEAD, 7)
        step(push, memory)
        step(push, memory)
        lay(memory, HEAD, [3, 4], 7)
        step(push, memory)
        self.assertEqual((push.done, items_of(memory, HEAD)), (False, [3, 4]))
        self.assertEqual(play(push, memory), 3)
        self.assertEqual(memory.told[2:], [
            ("swap", HEAD, (5, 6), (8, 7), False),
            ("read", HEAD, (4, 7)), ("write", below(7), 4), ("swap", HEAD, (4, 7), (8, 8), True)])
        self.assertEqual(items_of(memory, HEAD), [7, 3, 4])

    def test_an_old_top_with_another_tag_makes_the_swap_fail(self):
        memory, slow = stack_of([4, 9]), Push(HEAD, 7)
        step(slow, memory)
        step(slow, memory)
        for machine in (Pop(HEAD), Push(HEAD, 4)):
            play(machine, memory)
        self.assertEqual((memory.peek(HEAD), items_of(memory, HEAD)), ((5, 2), [4, 9]))
        step(slow, memory)
        self.assertEqual((slow.done, items_of(memory, HEAD)), (False, [4, 9]))
        play(slow, memory)
        self.assertEqual((memory.peek(HEAD), items_of(memory, HEAD)), ((8, 3), [7, 4, 9]))


class TakeAllTest(unittest.TestCase):
    def test_fields_at_first(self):
        take, memory = TakeAll(HEAD), stack_of([4])
        self.assertEqual((take.done, take.taken, take.holding(memory)), (False, [], []))

    def test_an_empty_stack(self):
        for memory, value in ((ToldMemory(), 0), (stack_of([], 4), (0, 4))):
            take = TakeAll(HEAD)
            step(take, memory)
            self.assertEqual((take.done, take.taken, take.holding(memory)), (True, [], []))
            self.assertEqual(memory.told, [("read", HEAD, value)])
            self.assertEqual(memory.peek(HEAD), value)

    def test_its_accesses(self):
        memory, take = stack_of([4, 9, 0], 6), TakeAll(HEAD)
        self.assertEqual(play(take, memory), 5)
        self.assertEqual(memory.told, [
            ("read", HEAD, (5, 6)), ("swap", HEAD, (5, 6), (0, 7), True),
            ("read", below(4), 10), ("read", below(9), 1), ("read", below(0), 0)])
        self.assertEqual((take.taken, items_of(memory, HEAD)), ([4, 9, 0], []))

    def test_what_it_has_after_each_step(self):
        memory, take = stack_of([4, 9, 0]), TakeAll(HEAD)
        seen = []
        while not take.done:
            step(take, memory)
            seen.append((list(take.taken), take.holding(memory), items_of(memory, HEAD)))
        self.assertEqual(seen, [
            ([], [], [4, 9, 0]),
            ([], [4, 9, 0], []),
            ([4], [4, 9, 0], []),
            ([4, 9], [4, 9, 0], []),
            ([4, 9, 0], [4, 9, 0], [])])

    def test_one_item(self):
        memory, take = stack_of([0], 2), TakeAll(HEAD)
        self.assertEqual(play(take, memory), 3)
        self.assertEqual((take.taken, memory.peek(HEAD)), ([0], (0, 3)))

    def test_pages(self):
        memory, take = ToldMemory(), TakeAll(PAGES)
        lay(memory, PAGES, [1, 0, 2])
        lay(memory, HEAD, [0, 1])
        step(take, memory)
        step(take, memory)
        self.assertEqual(take.holding(memory), [1, 0, 2])
        play(take, memory)
        self.assertEqual((take.taken, items_of(memory, HEAD)), ([1, 0, 2], [0, 1]))

    def test_holding_makes_no_access_and_shares_nothing(self):
        memory, take = stack_of([4, 9]), TakeAll(HEAD)
        for accesses in (1, 2, 3, 4):
            step(take, memory)
            take.holding(memory).append(99)
            self.assertEqual(memory.accesses, accesses)
        self.assertEqual((take.taken, take.holding(memory)), ([4, 9], [4, 9]))

    def test_a_swap_that_fails_begins_anew(self):
        memory, take = stack_of([4], 6), TakeAll(HEAD)
        step(take, memory)
        lay(memory, HEAD, [3, 4], 7)
        step(take, memory)
        self.assertEqual((take.done, take.taken, take.holding(memory)), (False, [], []))
        self.assertEqual(items_of(memory, HEAD), [3, 4])
        self.assertEqual(play(take, memory), 4)
        self.assertEqual(memory.told[1:4], [
            ("swap", HEAD, (5, 6), (0, 7), False), ("read", HEAD, (4, 7)), ("swap", HEAD, (4, 7), (0, 8), True)])
        self.assertEqual(take.taken, [3, 4])

    def test_it_may_find_nothing_when_it_begins_anew(self):
        memory, take = stack_of([4], 6), TakeAll(HEAD)
        step(take, memory)
        lay(memory, HEAD, [], 7)
        step(take, memory)
        step(take, memory)
        self.assertEqual((take.done, take.taken, take.holding(memory)), (True, [], []))

    def test_an_old_top_with_another_tag_makes_the_swap_fail(self):
        memory, slow = stack_of([4, 9, 2]), TakeAll(HEAD)
        step(slow, memory)
        for machine in (Pop(HEAD), Pop(HEAD), Push(HEAD, 4)):
            play(machine, memory)
        step(slow, memory)
        self.assertEqual((slow.holding(memory), items_of(memory, HEAD)), ([], [4, 2]))
        play(slow, memory)
        self.assertEqual((slow.taken, memory.peek(HEAD)), ([4, 2], (0, 4)))

    def test_pushes_meanwhile_do_not_change_what_was_taken(self):
        memory, take = stack_of([4, 9]), TakeAll(HEAD)
        step(take, memory)
        step(take, memory)
        play(Push(HEAD, 3), memory)
        self.assertEqual((take.holding(memory), items_of(memory, HEAD)), ([4, 9], [3]))
        play(take, memory)
        self.assertEqual((take.taken, items_of(memory, HEAD)), ([4, 9], [3]))


class Shared:
    """A memory with one stack, and machines at it, as each_weaving wants them."""

    def __init__(self, items, machines):
        self.memory = stack_of(items)
        self.calls = machines

    def where(self):
        """Return all items: those on the stack, those taken, and those not pushed yet."""
        found = items_of(self.memory, HEAD)
        for machine in self.calls:
            if isinstance(machine, Push):
                found.extend([] if machine.done else [machine.item])
            elif isinstance(machine, TakeAll):
                found.extend(machine.holding(self.memory))
            elif machine.result is not None:
                found.append(machine.result)
        return sorted(found)


class WovenMachinesTest(unittest.TestCase):
    def check(self, items, make, everything):
        def look(story):
            self.assertEqual(story.where(), everything)

        def end(story):
            changes = [told for told in story.memory.told if told[0] == "swap" and told[4]]
            self.assertEqual(head_value(story.memory.peek(HEAD))[1], len(changes))
            self.assertEqual([new[1] for _, _, _, new, _ in changes], list(range(1, len(changes) + 1)))

        self.assertGreater(each_weaving(lambda: Shared(items, make()), look, end), 1)

    def test_two_pops(self):
        self.check([4, 9, 2], lambda: [Pop(HEAD), Pop(HEAD)], [2, 4, 9])

    def test_two_pops_at_one_item(self):
        self.check([4], lambda: [Pop(HEAD), Pop(HEAD)], [4])

    def test_two_pushes(self):
        self.check([], lambda: [Push(HEAD, 5), Push(HEAD, 6)], [5, 6])

    def test_pop_and_push(self):
        self.check([4], lambda: [Pop(HEAD), Push(HEAD, 5)], [4, 5])

    def test_take_all_and_pop(self):
        self.check([4, 9], lambda: [TakeAll(HEAD), Pop(HEAD)], [4, 9])

    def test_take_all_and_push(self):
        self.check([4, 9], lambda: [TakeAll(HEAD), Push(HEAD, 5)], [4, 5, 9])

    def test_two_take_all(self):
        self.check([4, 9], lambda: [TakeAll(HEAD), TakeAll(HEAD)], [4, 9])

    def test_three_machines(self):
        self.check([4], lambda: [Pop(HEAD), Push(HEAD, 5), TakeAll(HEAD)], [4, 5])


class InterfaceTest(unittest.TestCase):
    def test_all_is_defined_in_its_file(self):
        for made in (Pop, Push, TakeAll, free_cell, next_cell, head_value, items_of):
            self.assertEqual(made.__module__, stacks_file.__name__)

    def test_the_methods_stand_in_the_classes_themselves(self):
        for made in (Pop, Push, TakeAll):
            self.assertIn("step", vars(made))
        self.assertIn("holding", vars(TakeAll))

    def test_arguments_go_by_their_names(self):
        memory = Memory()
        for machine in (Pop(head=HEAD), Push(head=HEAD, item=1), TakeAll(head=HEAD)):
            machine.step(memory=memory)
        self.assertEqual(TakeAll(head=HEAD).holding(memory=memory), [])
        self.assertEqual((free_cell(size=1), next_cell(head=PAGES, item=1)), (("free", 1), ("page below", 1)))
        self.assertEqual((head_value(value=0), items_of(memory=memory, head=HEAD)), ((0, 0), []))


if __name__ == "__main__":
    unittest.main()
