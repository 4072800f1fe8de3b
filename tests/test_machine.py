"""The machine: points [18] to [21], and [24] with codes that are written by hand."""

import itertools
import unittest

from blameless.interface import Interface
from blameless.machine import Code, Machine
from blameless.traces import possible
from blameless.words import OPERATORS, combine
from tests.helpers import Chance

MANY = 10000
ALONE = Interface([(1, [])])
PAIR = Interface([(1, [(1, 0)]), (1, [])])

HALT = [0, 0, 0, 0]
LEAVE = [16, 0, 0, 0]


def machine_of(*instructions, interface=ALONE, others=()):
    """Return a machine whose component 0 has these instructions, from address 0 on, and others these codes."""
    return Machine(interface, [Code(sum(instructions, []), [0] * interface.exports[0]), *others])


def leave(goal):
    return [16, goal, 0, 0]


def beside(other, *instructions):
    """Return a machine whose component 0 has these instructions and imports procedure 0 of component 1, a code."""
    return machine_of(*instructions, interface=PAIR, others=[other])


class MachineTestCase(unittest.TestCase):
    def assert_ends(self, machine, answer, steps):
        self.assertEqual(machine.go(MANY, MANY), [("end", answer)])
        self.assertEqual((machine.trace, machine.state, machine.steps), ([("end", answer)], "ended", steps))

    def assert_answer(self, instructions, answer, steps=None):
        """Check that these instructions, and one that leaves with register 0, end with this answer."""
        with self.subTest(instructions=instructions):
            many = len(instructions) + 1 if steps is None else steps
            self.assert_ends(machine_of(*instructions, LEAVE), answer, many)

    def assert_stops(self, machine, trace, steps):
        self.assertEqual(machine.go(MANY, MANY), trace)
        self.assertEqual((machine.trace, machine.state, machine.steps), (trace, "stopped", steps))


class CodeTest(unittest.TestCase):
    def test_the_fields_are_tuples(self):
        for kind in (list, tuple):
            code = Code(kind([1, 2]), kind([3]))
            self.assertEqual((code.memory, code.entries), ((1, 2), (3,)))
            self.assertIs(type(code.memory), tuple)
            self.assertIs(type(code.entries), tuple)
        self.assertEqual((Code([], []).memory, Code([], []).entries), ((), ()))

    def test_equality(self):
        code = Code([1, 2], [3])
        self.assertTrue(code == Code((1, 2), (3,)))
        self.assertFalse(code != Code((1, 2), (3,)))
        others = [Code([1, 2], [4]), Code([1, 3], [3]), Code([1, 2, 0], [3]), Code([1, 2], [3, 3])]
        for other in others + [((1, 2), (3,)), None]:
            self.assertFalse(code == other)
            self.assertTrue(code != other)

    def test_the_lists_that_are_passed_are_kept_apart(self):
        memory, entries = [1, 2], [3]
        code = Code(memory, entries)
        memory.append(4)
        entries.append(5)
        self.assertEqual(code, Code([1, 2], [3]))


class BeginTest(MachineTestCase):
    def test_the_fields_at_the_beginning(self):
        interface = Interface([(2, [(1, 1)]), (2, [])])
        machine = Machine(interface, [Code([1, 2, 3], [4, 5]), Code((6,), (7, 8))])
        self.assertEqual((machine.trace, machine.state, machine.steps), ([], "running", 0))
        self.assertEqual((machine.current, machine.place), (0, 4))
        self.assertEqual(machine.registers, [0] * 8)
        self.assertEqual(machine.memories, [[1, 2, 3], [6]])
        for field in (machine.trace, machine.registers, machine.memories, machine.memories[0], machine.memories[1]):
            self.assertIs(type(field), list)

    def test_the_place_is_the_entry_of_procedure_0(self):
        interface = Interface([(3, [])])
        machine = Machine(interface, [Code(HALT + [1, 0, 7, 0] + LEAVE + HALT, [4, 0, 12])])
        self.assertEqual(machine.place, 4)
        self.assert_ends(machine, 7, 2)

    def test_all_registers_are_0_at_the_beginning(self):
        for goal in range(8):
            self.assert_ends(machine_of(leave(goal)), 0, 1)


class PlaceTest(MachineTestCase):
    def test_the_place_becomes_4_greater(self):
        machine = machine_of([1, 0, 7, 0], [2, 1, 0, 0], [3, 0, 0, 1], [10, 0, 2, 0], [11, 0, 2, 20], LEAVE)
        for steps in range(1, 6):
            machine.step()
            self.assertEqual((machine.place, machine.steps, machine.state), (4 * steps, steps, "running"))

    def test_an_entry_that_is_no_multiple_of_4(self):
        for at in range(9):
            self.assert_ends(Machine(ALONE, [Code([9] * at + [1, 3, 5, 0, 16, 3, 0, 0], [at])]), 5, 2)

    def test_places_of_which_not_all_addresses_are_inside(self):
        for many in range(14):
            for entry in (0, 4, 8, 12, 16):
                with self.subTest(many=many, entry=entry):
                    machine = Machine(ALONE, [Code(([1, 0, 0, 0] * 4)[:many], [entry])])
                    # All whole instructions run, and it stops at the first one that is not whole.
                    self.assert_stops(machine, [], max(0, (many - entry) // 4) + 1)

    def test_a_memory_without_words(self):
        for entry in (0, 1, 4, 65535):
            self.assert_stops(Machine(ALONE, [Code([], [entry])]), [], 1)

    def test_one_word_too_few_and_just_enough(self):
        self.assert_stops(Machine(ALONE, [Code([16, 0, 0], [0])]), [], 1)
        self.assert_ends(Machine(ALONE, [Code([16, 0, 0, 0], [0])]), 0, 1)
        self.assert_stops(Machine(ALONE, [Code([0, 16, 0, 0], [1])]), [], 1)
        self.assert_ends(Machine(ALONE, [Code([0, 16, 0, 0, 0], [1])]), 0, 1)

    def test_an_entry_outside_of_the_memory(self):
        for entry in (4, 5, 8, 65532, 65535, 65536, -1, -4):
            with self.subTest(entry=entry):
                self.assert_stops(Machine(ALONE, [Code(LEAVE, [entry])]), [], 1)

    def test_the_place_is_not_reduced(self):
        memory = LEAVE + [0] * (65536 - 8) + [1, 0, 7, 0]
        self.assertEqual(len(memory), 65536)
        machine = Machine(ALONE, [Code(memory, [65532])])
        machine.step()
        self.assertEqual((machine.registers[0], machine.place, machine.state), (7, 65536, "running"))
        self.assert_stops(machine, [], 2)

    def test_a_jump_over_the_end_of_the_addresses(self):
        machine = Machine(ALONE, [Code([12, 0, 0, 65535] + [0] * 65531 + [16], [0])])
        self.assert_stops(machine, [], 2)


class MoveTest(MachineTestCase):
    def test_const(self):
        for word in (0, 1, 255, 256, 32768, 65534, 65535):
            self.assert_answer([[1, 0, word, 0]], word)
            for goal in range(8):
                self.assert_ends(machine_of([1, goal, word, 99], leave(goal)), word, 2)

    def test_const_changes_one_register(self):
        machine = machine_of([1, 3, 7, 0])
        machine.step()
        self.assertEqual(machine.registers, [0, 0, 0, 7, 0, 0, 0, 0])

    def test_const_takes_its_goal_modulo_8(self):
        for goal in (8, 11, 15, 16, 4001, 65528, 65535):
            machine = machine_of([1, goal, 12, 0])
            machine.step()
            expected = [0] * 8
            expected[goal % 8] = 12
            self.assertEqual(machine.registers, expected)

    def test_const_takes_its_word_as_it_is(self):
        # B is a word here and no register.
        self.assert_answer([[1, 0, 8, 0]], 8)
        self.assert_answer([[1, 0, 65535, 0]], 65535)

    def test_move(self):
        self.assert_answer([[1, 3, 65535, 0], [2, 0, 3, 9]], 65535)
        machine = machine_of([1, 3, 6, 0], [2, 5, 3, 0])
        machine.go(2, 9)
        self.assertEqual(machine.registers, [0, 0, 0, 6, 0, 6, 0, 0])

    def test_move_takes_its_registers_modulo_8(self):
        machine = machine_of([1, 3, 6, 0], [2, 8 + 5, 65528 + 3, 0])
        machine.go(2, 9)
        self.assertEqual(machine.registers, [0, 0, 0, 6, 0, 6, 0, 0])

    def test_move_to_the_same_register(self):
        self.assert_answer([[1, 0, 6, 0], [2, 0, 0, 0]], 6)


class OperatorTest(MachineTestCase):
    WORDS = (0, 1, 2, 3, 7, 255, 256, 257, 32767, 32768, 65533, 65534, 65535)

    def test_each_operator(self):
        for number, sign in enumerate(OPERATORS, start=3):
            for left, right in itertools.product(self.WORDS, repeat=2):
                self.assert_answer([[1, 1, left, 0], [1, 2, right, 0], [number, 0, 1, 2]], combine(sign, left, right))

    def test_the_numbers_of_the_operators(self):
        rows = [(3, 19), (4, 65533), (5, 120), (6, 0), (7, 7), (8, 1), (9, 0)]
        for number, answer in rows:
            left, right = (8, 11) if number == 3 else (7, 10) if number in (4, 6, 7, 8) else (10, 12)
            self.assert_answer([[1, 1, left, 0], [1, 2, right, 0], [number, 0, 1, 2]], answer)
        self.assert_answer([[1, 1, 17, 0], [1, 2, 5, 0], [6, 0, 1, 2]], 3)
        self.assert_answer([[1, 1, 17, 0], [1, 2, 5, 0], [7, 0, 1, 2]], 2)
        self.assert_answer([[1, 1, 17, 0], [1, 2, 17, 0], [9, 0, 1, 2]], 1)
        self.assert_answer([[1, 1, 17, 0], [1, 2, 0, 0], [6, 0, 1, 2]], 0)
        self.assert_answer([[1, 1, 17, 0], [1, 2, 0, 0], [7, 0, 1, 2]], 0)

    def test_registers_modulo_8(self):
        machine = machine_of([1, 1, 20, 0], [1, 2, 3, 0], [4, 8 + 5, 16 + 1, 65528 + 2])
        machine.go(3, 9)
        self.assertEqual(machine.registers, [0, 20, 3, 0, 0, 17, 0, 0])

    def test_operands_that_are_the_same_register(self):
        for number, answer in [(3, 10), (4, 0), (5, 25), (6, 1), (7, 0), (8, 0), (9, 1)]:
            self.assert_answer([[1, 0, 5, 0], [number, 0, 0, 0]], answer)
            self.assert_answer([[1, 1, 5, 0], [number, 0, 1, 9]], answer)
        # The goal may be either one of the operands.
        self.assert_answer([[1, 0, 9, 0], [1, 1, 4, 0], [4, 0, 0, 1]], 5)
        self.assert_answer([[1, 0, 9, 0], [1, 1, 4, 0], [4, 0, 1, 0]], 65531)

    def test_the_operands_stay(self):
        machine = machine_of([1, 1, 20, 0], [1, 2, 3, 0], [3, 0, 1, 2])
        machine.go(3, 9)
        self.assertEqual(machine.registers, [23, 20, 3, 0, 0, 0, 0, 0])


class MemoryTest(MachineTestCase):
    def test_load(self):
        # The words of the instructions are words of the memory, too.
        for address in range(9):
            memory = [10, 0, 5, address, 16, 0, 0, 0, 77]
            self.assert_ends(Machine(ALONE, [Code(memory, [0])]), memory[address], 2)

    def test_load_adds_the_register_and_the_number(self):
        for base in range(13):
            machine = machine_of([1, 1, base, 0], [10, 2, 1, 12 - base], leave(2), [77, 78])
            self.assert_ends(machine, 77, 3)

    def test_store(self):
        machine = machine_of([1, 1, 9, 0], [1, 2, 65535, 0], [11, 2, 1, 8], HALT, [5, 6, 7])
        machine.go(3, 9)
        self.assertEqual(machine.memories[0], [1, 1, 9, 0, 1, 2, 65535, 0, 11, 2, 1, 8] + HALT + [5, 65535, 7])
        self.assertEqual(machine.registers, [0, 9, 65535, 0, 0, 0, 0, 0])

    def test_load_and_store_take_registers_modulo_8(self):
        machine = machine_of([1, 1, 12, 0], [10, 8 + 5, 16 + 1, 5], [11, 65528 + 5, 24 + 1, 6], HALT, [6, 7, 8])
        machine.go(3, 9)
        self.assertEqual(machine.registers, [0, 12, 0, 0, 0, 7, 0, 0])
        self.assertEqual(machine.memories[0][16:], [6, 7, 7])

    def test_the_address_is_taken_modulo_65536(self):
        for base, more in [(65535, 1), (65535, 13), (1, 65535), (65530, 20), (40000, 25536 + 12)]:
            with self.subTest(base=base, more=more):
                address = base + more - 65536
                machine = machine_of([1, 1, base, 0], [10, 0, 1, more], LEAVE, [77, 78, 79])
                memory = list(machine.memories[0])
                self.assert_ends(machine, memory[address], 3)
                machine = machine_of([1, 1, base, 0], [1, 2, 99, 0], [11, 2, 1, more], HALT)
                machine.go(3, 9)
                self.assertEqual((machine.state, machine.memories[0][address]), ("running", 99))

    def test_the_last_address_and_one_behind_it(self):
        size = 13
        for number in (10, 11):
            for base, more in [(0, size - 1), (size - 1, 0), (5, size - 6), (65535, size)]:
                machine = Machine(ALONE, [Code([1, 1, base, 0, number, 2, 1, more] + LEAVE + [66], [0])])
                self.assert_ends(machine, 0, 3)
                self.assertEqual(machine.memories[0][-1], 66 if number == 10 else 0)
            outside = [(0, size), (size, 0), (5, size - 5), (65535, size + 1), (0, 65535), (65535, 0), (65000, 500)]
            for base, more in outside:
                with self.subTest(number=number, base=base, more=more):
                    code = Code([1, 1, base, 0, number, 1, 1, more] + LEAVE + [66], [0])
                    machine = Machine(ALONE, [code])
                    self.assert_stops(machine, [], 2)
                    self.assertEqual(machine.memories, [list(code.memory)])

    def test_an_address_at_the_end_of_the_longest_memory(self):
        memory = [1, 1, 65535, 0, 10, 0, 1, 0] + LEAVE + [0] * (65536 - 13) + [44]
        self.assert_ends(Machine(ALONE, [Code(memory, [0])]), 44, 3)

    def test_load_into_the_register_of_the_address(self):
        self.assert_answer([[1, 0, 3, 0], [10, 0, 0, 1]], 10)

    def test_code_that_writes_over_its_own_instructions(self):
        # It makes the word that it loads the one of its own `const`, and turns a halt into a leave.
        machine = machine_of([1, 1, 7, 0], [11, 1, 0, 14], [1, 2, 16, 0], [1, 0, 99, 0], [11, 2, 3, 20], HALT)
        self.assert_ends(machine, 7, 6)

    def test_the_next_instruction_may_be_written(self):
        machine = machine_of([1, 1, 16, 0], [11, 1, 0, 8], HALT)
        self.assert_ends(machine, 0, 3)

    def test_the_memories_stay_apart(self):
        reader = Code([10, 0, 1, 8] + LEAVE + [41, 42], [0])
        caller = Code([1, 0, 5, 0, 11, 0, 1, 21, 15, 0, 0, 0, 10, 2, 1, 21] + LEAVE + [0, 0], [0])
        machine = Machine(PAIR, [caller, reader])
        self.assertEqual(machine.go(MANY, MANY), [("call", 0, 1, 0, 5), ("return", 1, 0, 41), ("end", 41)])
        self.assertEqual(machine.memories[1], list(reader.memory))
        self.assertEqual(machine.memories[0][20:], [0, 5])


class JumpTest(MachineTestCase):
    def test_jump(self):
        self.assert_ends(machine_of([12, 9, 9, 8], HALT, leave(0)), 0, 2)
        machine = machine_of([12, 0, 0, 3])
        machine.step()
        self.assertEqual((machine.place, machine.state, machine.steps), (3, "running", 1))

    def test_jump_backwards_runs_on(self):
        machine = machine_of([12, 0, 0, 0])
        self.assertEqual(machine.go(500, 1), [])
        self.assertEqual((machine.place, machine.state, machine.steps), (0, "running", 500))

    def test_jumpzero(self):
        for word in (1, 2, 8, 32768, 65535):
            self.assert_ends(machine_of([1, 3, word, 0], [13, 3, 0, 12], leave(3), HALT), word, 3)
        self.assert_ends(machine_of([1, 0, 9, 0], [13, 3, 0, 12], HALT, leave(0)), 9, 3)

    def test_jumpzero_takes_its_register_modulo_8(self):
        self.assert_ends(machine_of([1, 3, 5, 0], [13, 8 + 3, 0, 12], leave(3), HALT), 5, 3)
        self.assert_ends(machine_of([1, 0, 9, 0], [13, 65528 + 3, 0, 12], HALT, leave(0)), 9, 3)

    def test_jumpto(self):
        self.assert_ends(machine_of([1, 3, 12, 0], [14, 3, 0, 0], HALT, leave(3)), 12, 3)
        self.assert_ends(machine_of([1, 3, 12, 0], [14, 16 + 3, 99, 99], HALT, leave(3)), 12, 3)
        # The number in the instruction is no place.
        machine = machine_of([14, 0, 4, 4], LEAVE)
        machine.go(3, 9)
        self.assertEqual((machine.place, machine.state), (0, "running"))

    def test_places_outside_of_the_memory(self):
        for place in (8, 9, 11, 12, 65532, 65535):
            with self.subTest(place=place):
                self.assert_stops(machine_of([12, 0, 0, place], [0, 0]), [], 2)
                self.assert_stops(machine_of([13, 0, 0, place], [0, 0]), [], 2)
        for place in (12, 13, 65532, 65535):
            self.assert_stops(machine_of([1, 1, place, 0], [14, 1, 0, 0], [0, 0, 0]), [], 3)

    def test_a_jump_outside_is_a_step_of_its_own(self):
        machine = machine_of([12, 0, 0, 500])
        machine.step()
        self.assertEqual((machine.place, machine.state), (500, "running"))
        machine.step()
        self.assertEqual((machine.state, machine.steps), ("stopped", 2))


class StopTest(MachineTestCase):
    def test_halt(self):
        self.assert_stops(machine_of(HALT), [], 1)
        self.assert_stops(machine_of([1, 0, 5, 0], [0, 16, 16, 16], LEAVE), [], 2)

    def test_numbers_of_no_instruction(self):
        for number in list(range(17, 300)) + [4096, 32768, 65520, 65535, -1]:
            self.assert_stops(machine_of([number, 0, 0, 0], LEAVE), [], 1)

    def test_the_numbers_are_not_taken_modulo_anything(self):
        for number in range(17):
            for more in (17, 32, 64, 256, 65536 - 17):
                if number + more > 16:
                    self.assert_stops(machine_of([number + more, 0, 0, 0], LEAVE), [], 1)

    def test_a_use_without_an_import(self):
        for number in (1, 2, 8, 255, 65535, -1):
            self.assert_stops(beside(Code(LEAVE, [0]), [15, 0, number, 0], LEAVE), [], 1)
        self.assert_stops(machine_of([15, 0, 0, 0], LEAVE), [], 1)

    def test_nothing_else_happens_when_it_stops(self):
        machine = beside(Code(LEAVE, [0]), [1, 0, 5, 0], [15, 0, 1, 0], LEAVE)
        memories = [list(memory) for memory in machine.memories]
        self.assert_stops(machine, [], 2)
        self.assertEqual((machine.memories, machine.current), (memories, 0))

    def test_it_stops_behind_events(self):
        trace = [("call", 0, 1, 0, 0)]
        self.assert_stops(beside(Code(HALT, [0]), [15, 0, 0, 0]), trace, 2)
        self.assert_stops(beside(Code([], [0]), [15, 0, 0, 0]), trace, 2)
        trace.append(("return", 1, 0, 0))
        self.assert_stops(beside(Code(LEAVE, [0]), [15, 0, 0, 0]), trace, 3)


class UseTest(MachineTestCase):
    def test_a_use_and_a_leave(self):
        adder = Code([1, 1, 1, 0, 3, 2, 0, 1, 16, 2, 0, 0], [0])
        machine = beside(adder, [1, 3, 65534, 0], [15, 3, 0, 0], [1, 1, 2, 0], [5, 4, 0, 1], leave(4))
        expected = [("call", 0, 1, 0, 65534), ("return", 1, 0, 65535), ("end", 65534)]
        self.assertEqual(machine.go(MANY, MANY), expected)
        self.assertEqual((machine.trace, machine.state, machine.steps), (expected, "ended", 8))

    def test_the_registers_of_use_and_leave_are_taken_modulo_8(self):
        machine = beside(Code(leave(65528), [0]), [1, 3, 6, 0], [15, 24 + 3, 0, 99], leave(8))
        self.assertEqual(machine.go(MANY, MANY), [("call", 0, 1, 0, 6), ("return", 1, 0, 6), ("end", 6)])

    def test_the_number_of_the_import_is_taken_as_it_is(self):
        self.assert_stops(beside(Code(LEAVE, [0]), [15, 0, 8, 0]), [], 1)

    def test_each_import_leads_to_its_procedure(self):
        interface = Interface([(1, [(2, 1), (1, 0), (2, 0)]), (1, []), (2, [])])
        others = [Code([1, 0, 10, 0] + LEAVE, [0]), Code([1, 0, 20, 0] + LEAVE + [1, 0, 21, 0] + LEAVE, [0, 8])]
        for number, (called, procedure, answer) in enumerate([(2, 1, 21), (1, 0, 10), (2, 0, 20)]):
            machine = machine_of([15, 0, number, 0], LEAVE, interface=interface, others=others)
            expected = [("call", 0, called, procedure, 0), ("return", called, 0, answer), ("end", answer)]
            self.assertEqual(machine.go(MANY, MANY), expected)

    def test_the_fields_when_the_current_component_changes(self):
        other = Code([0] * 3 + [1, 6, 9, 0] + leave(6), [3])
        machine = beside(other, [1, 5, 8, 0], [1, 0, 7, 0], [15, 5, 0, 0], LEAVE)
        machine.go(2, 9)
        self.assertEqual(machine.registers, [7, 0, 0, 0, 0, 8, 0, 0])
        machine.step()
        self.assertEqual((machine.current, machine.place, machine.state), (1, 3, "running"))
        self.assertEqual(machine.registers, [8, 0, 0, 0, 0, 0, 0, 0])
        machine.step()
        self.assertEqual((machine.current, machine.place), (1, 7))
        self.assertEqual(machine.registers, [8, 0, 0, 0, 0, 0, 9, 0])
        machine.step()
        self.assertEqual((machine.current, machine.place), (0, 12))
        self.assertEqual(machine.registers, [9, 0, 0, 0, 0, 0, 0, 0])
        self.assertEqual((len(machine.registers), machine.steps), (8, 5))

    def test_an_entry_outside_of_the_memory_of_a_component_that_is_used(self):
        machine = beside(Code(LEAVE, [2]), [15, 0, 0, 0])
        machine.step()
        self.assertEqual((machine.current, machine.place, machine.state), (1, 2, "running"))
        self.assert_stops(machine, [("call", 0, 1, 0, 0)], 2)

    def test_a_use_in_the_last_instruction(self):
        # The place at which the component waits is outside of its memory.
        machine = beside(Code(LEAVE, [0]), [15, 0, 0, 0])
        self.assert_stops(machine, [("call", 0, 1, 0, 0), ("return", 1, 0, 0)], 3)

    def test_a_component_that_is_used_again_while_it_waits(self):
        interface = Interface([(2, [(1, 0)]), (1, [(0, 1)])])
        begin = [[1, 0, 2, 0], [15, 0, 0, 0], [1, 1, 5, 0], [3, 0, 0, 1], LEAVE]
        # Procedure 1 uses component 1 with its word less 1, unless it is 0, and adds 1 to the answer.
        again = [[13, 0, 0, 44], [1, 1, 1, 0], [4, 0, 0, 1], [15, 0, 0, 0], [1, 1, 1, 0], [3, 0, 0, 1], LEAVE]
        machine = Machine(interface, [Code(sum(begin + again, []), [0, 20]), Code([15, 0, 0, 0] + LEAVE, [0])])
        self.assertEqual(machine.go(MANY, 2), [("call", 0, 1, 0, 2), ("call", 1, 0, 1, 2)])
        self.assertEqual(machine.go(MANY, 4)[2:], [("call", 0, 1, 0, 1), ("call", 1, 0, 1, 1)])
        self.assertEqual(machine.go(MANY, 7)[4:], [("call", 0, 1, 0, 0), ("call", 1, 0, 1, 0), ("return", 0, 1, 0)])
        self.assertEqual(machine.go(MANY, 9)[7:], [("return", 1, 0, 0), ("return", 0, 1, 1)])
        self.assertEqual(machine.go(MANY, 11)[9:], [("return", 1, 0, 1), ("return", 0, 1, 2)])
        self.assertEqual(machine.go(MANY, MANY)[11:], [("return", 1, 0, 2), ("end", 7)])
        self.assertEqual(machine.state, "ended")

    def test_the_one_that_began_to_wait_last_is_current_again(self):
        interface = Interface([(2, [(1, 0)]), (1, [(0, 1), (2, 0)]), (1, [(0, 1)])])
        codes = [
            Code([15, 0, 0, 0] + LEAVE + [1, 0, 30, 0] + LEAVE, [0, 8]),
            Code([15, 0, 1, 0, 15, 0, 0, 0, 1, 0, 10, 0] + LEAVE, [0]),
            Code([15, 0, 0, 0, 1, 0, 20, 0] + LEAVE, [0]),
        ]
        expected = [
            ("call", 0, 1, 0, 0),
            ("call", 1, 2, 0, 0),
            ("call", 2, 0, 1, 0),
            ("return", 0, 2, 30),
            ("return", 2, 1, 20),
            ("call", 1, 0, 1, 20),
            ("return", 0, 1, 30),
            ("return", 1, 0, 10),
            ("end", 10),
        ]
        machine = Machine(interface, codes)
        self.assertEqual(machine.go(MANY, MANY), expected)
        self.assertEqual((machine.state, machine.steps), ("ended", 13))

    def test_the_memory_of_a_component_stays_between_uses(self):
        # The counter's memory is the only thing that tells the uses apart.
        counter = Code([10, 0, 1, 20, 1, 1, 1, 0, 3, 0, 0, 1, 11, 0, 2, 20] + LEAVE + [100], [0])
        machine = beside(counter, [15, 0, 0, 0], [15, 0, 0, 0], [15, 0, 0, 0], LEAVE)
        answers = [event[-1] for event in machine.go(MANY, MANY)]
        self.assertEqual(answers, [0, 101, 101, 102, 102, 103, 103])


class EndTest(MachineTestCase):
    def test_a_leave_where_nobody_waits(self):
        for word in (0, 1, 65535):
            self.assert_answer([[1, 0, word, 0]], word)

    def test_it_ends_in_component_0_alone(self):
        machine = beside(Code([1, 0, 4, 0] + LEAVE, [0]), [15, 0, 0, 0], [15, 0, 0, 0], LEAVE)
        self.assertEqual(machine.go(MANY, 4)[-1], ("return", 1, 0, 4))
        self.assertEqual(machine.state, "running")
        self.assertEqual(machine.go(MANY, MANY)[-1], ("end", 4))
        self.assertEqual((machine.state, machine.steps), ("ended", 7))


class GoTest(MachineTestCase):
    def setUp(self):
        self.interface = PAIR
        self.codes = [Code([15, 0, 0, 0] * 3 + LEAVE, [0]), Code([1, 1, 1, 0, 3, 0, 0, 1] + LEAVE, [0])]
        self.trace = []
        for word in range(3):
            self.trace.extend([("call", 0, 1, 0, word), ("return", 1, 0, word + 1)])
        self.trace.append(("end", 3))

    def machine(self):
        return Machine(self.interface, self.codes)

    def test_no_steps_and_no_events(self):
        for steps, events in [(0, 0), (0, 5), (5, 0)]:
            machine = self.machine()
            self.assertEqual(machine.go(steps, events), [])
            self.assertEqual((machine.steps, machine.state), (0, "running"))

    def test_fewer_events_than_are_made(self):
        # It does no step more than it needs.
        for events, steps in enumerate([0, 1, 4, 5, 8, 9, 12, 13, 13, 13]):
            machine = self.machine()
            self.assertEqual(machine.go(MANY, events), self.trace[:events])
            self.assertEqual((machine.steps, machine.state), (steps, "ended" if events >= 7 else "running"))

    def test_fewer_steps_than_are_done(self):
        for steps in range(20):
            machine = self.machine()
            events = machine.go(steps, MANY)
            self.assertEqual(events, self.trace[: len(events)])
            self.assertEqual((machine.steps, len(events)), (min(steps, 13), min((steps + 3) // 4 + steps // 4, 7)))

    def test_in_parts_and_step_by_step(self):
        whole = self.machine()
        whole.go(MANY, MANY)
        for part in range(1, 8):
            machine = self.machine()
            while machine.state == "running":
                machine.go(part, MANY)
            self.assertEqual((machine.trace, machine.state, machine.steps), (whole.trace, whole.state, whole.steps))
        machine = self.machine()
        for _ in range(13):
            self.assertEqual(machine.state, "running")
            machine.step()
        self.assertEqual((machine.trace, machine.state, machine.steps), (self.trace, "ended", 13))

    def test_go_does_nothing_when_it_is_over(self):
        machine = self.machine()
        machine.go(MANY, MANY)
        self.assertEqual(machine.go(MANY, MANY), self.trace)
        self.assertEqual((machine.state, machine.steps), ("ended", 13))
        stopped = machine_of(HALT)
        stopped.go(MANY, MANY)
        self.assertEqual(stopped.go(MANY, MANY), [])
        self.assertEqual((stopped.state, stopped.steps), ("stopped", 1))

    def test_go_when_there_are_more_events_already(self):
        machine = self.machine()
        machine.go(MANY, 4)
        steps = machine.steps
        self.assertEqual(machine.go(MANY, 2), self.trace[:4])
        self.assertEqual(machine.steps, steps)

    def test_the_list_is_a_new_one(self):
        machine = self.machine()
        found = machine.go(MANY, 3)
        found.append("more")
        self.assertEqual(machine.trace, self.trace[:3])
        again = machine.go(0, 0)
        again.clear()
        self.assertEqual(machine.trace, self.trace[:3])
        self.assertEqual(machine.go(MANY, MANY), self.trace)

    def test_what_was_passed_stays(self):
        for seed in range(40):
            chance = Chance(seed)
            interface = chance.interface()
            codes = chance.codes(interface)
            rows = list(zip(interface.exports, interface.imports))
            words = [(code.memory, code.entries) for code in codes]
            given = list(codes)
            Machine(interface, given).go(300, MANY)
            self.assertEqual(words, [(code.memory, code.entries) for code in given])
            self.assertTrue(all([one is other for one, other in zip(given, codes)]))
            self.assertEqual(list(zip(interface.exports, interface.imports)), rows)

    def test_two_machines_with_the_same_codes(self):
        code = Code([10, 0, 1, 20, 1, 1, 1, 0, 3, 0, 0, 1, 11, 0, 2, 20] + LEAVE + [100], [0])
        first, second = Machine(ALONE, [code]), Machine(ALONE, [code])
        self.assertEqual(first.go(MANY, MANY), [("end", 101)])
        self.assertEqual(second.go(MANY, MANY), [("end", 101)])


class DrawnTest(unittest.TestCase):
    def test_drawn_codes(self):
        states = []
        for seed in range(300):
            chance = Chance(seed)
            interface = chance.interface()
            codes = chance.codes(interface)
            machine = Machine(interface, codes)
            whole = machine.go(400, MANY)
            states.append(machine.state)
            self.assertIs(possible(interface, whole), True)
            self.assertEqual(machine.state == "ended", whole[-1:] != [] and whole[-1][0] == "end")
            self.assertTrue(all([0 <= part <= 65535 for event in whole for part in event[1:]]))
            # After fewer steps the trace is a beginning.
            for steps in (1, 7, 50, 399):
                shorter = Machine(interface, codes).go(steps, MANY)
                self.assertEqual(shorter, whole[: len(shorter)])
        for state in ("running", "ended", "stopped"):
            self.assertGreater(states.count(state), 30)


def moved(code, many):
    """Return a code that does the same with other words: its instructions stand further behind, jumps adjusted."""
    memory = [0] * many
    for at in range(0, len(code.memory), 4):
        number, first, second, third = code.memory[at : at + 4]
        memory.extend([number, first, second, third + many if number in (10, 11, 12, 13) else third])
    return Code(memory, [entry + many for entry in code.entries])


class MixtureTest(unittest.TestCase):
    def test_mixtures_of_programs_with_the_same_trace(self):
        interface = Interface([(1, [(1, 0), (2, 0)]), (1, [(2, 0)]), (1, [])])
        # Each one does the same in two ways: a sum for a product, a table for a sum, more steps than needed.
        first = [
            Code([1, 0, 5, 0, 15, 0, 0, 0, 15, 0, 1, 0] + LEAVE, [0]),
            Code([3, 0, 0, 0, 15, 0, 0, 0] + LEAVE, [0]),
            Code([1, 1, 1, 0, 3, 0, 0, 1] + LEAVE, [0]),
        ]
        second = [
            Code([1, 7, 4, 0, 1, 6, 1, 0, 3, 5, 6, 7, 15, 5, 0, 0, 2, 3, 0, 0, 15, 3, 1, 0] + leave(0), [0]),
            Code([1, 2, 2, 0, 5, 4, 0, 2, 12, 0, 0, 12, 15, 4, 0, 0] + LEAVE, [0]),
            Code([10, 1, 0, 8, 16, 1, 0, 0] + list(range(1, 20)), [0]),
        ]
        runs = [Machine(interface, codes) for codes in (first, second)]
        trace = runs[0].go(MANY, MANY)
        self.assertEqual(trace[-1], ("end", 12))
        self.assertEqual(runs[1].go(MANY, MANY), trace)
        together = runs[0].steps + runs[1].steps
        for choice in itertools.product((0, 1), repeat=3):
            mixed = Machine(interface, [(first, second)[side][at] for at, side in enumerate(choice)])
            self.assertEqual(mixed.go(together, MANY), trace)
            self.assertEqual(mixed.state, "ended")

    def test_mixtures_of_drawn_codes_and_moved_ones(self):
        tried = 0
        for seed in range(200):
            chance = Chance(seed)
            interface = chance.interface()
            first = chance.codes(interface)
            second = [moved(code, 4 * chance.random.randint(1, 5)) for code in first]
            trace = Machine(interface, first).go(150, MANY)
            other = Machine(interface, second).go(150, MANY)
            # The moved ones differ where a code jumps to a register or uses its own words: those are left out.
            if other != trace or not trace or interface.size() > 4:
                continue
            tried += 1
            for choice in itertools.product((0, 1), repeat=interface.size()):
                mixed = Machine(interface, [(first, second)[side][at] for at, side in enumerate(choice)])
                self.assertEqual(mixed.go(300, len(trace)), trace)
        self.assertGreater(tried, 20)


if __name__ == "__main__":
    unittest.main()
