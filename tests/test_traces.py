"""Traces: points [15], [16] and [17]."""

import copy
import unittest

from blameless.errors import BadTrace, BlameError
from blameless.interface import Interface
from blameless.machine import Machine
from blameless.process import Process
from blameless.traces import made_by, maker, possible, read_trace, trace_lines
from tests.helpers import Chance, Lively

# Component 0 exports 2 procedures and imports all of the others'; 1 and 2 import some of each other's and of 0's.
ROWS = [(2, [(1, 0), (1, 1), (2, 0)]), (2, [(0, 1), (2, 0)]), (1, [(1, 1), (0, 0)])]
THREE = Interface(ROWS)
ALONE = Interface([(1, [])])

# Calls within calls, in which 0 and 1 wait more than once.
NESTED = [
    ("call", 0, 1, 0, 5),
    ("call", 1, 0, 1, 6),
    ("call", 0, 2, 0, 7),
    ("call", 2, 1, 1, 8),
    ("call", 1, 2, 0, 9),
    ("return", 2, 1, 10),
    ("return", 1, 2, 11),
    ("return", 2, 0, 12),
    ("return", 0, 1, 13),
    ("call", 1, 2, 0, 14),
    ("return", 2, 1, 15),
    ("return", 1, 0, 16),
    ("end", 17),
]

# What maker returns after so many events of NESTED.
TURNS = [
    (0, []),
    (1, [0]),
    (0, [0, 1]),
    (2, [0, 1, 0]),
    (1, [0, 1, 0, 2]),
    (2, [0, 1, 0, 2, 1]),
    (1, [0, 1, 0, 2]),
    (2, [0, 1, 0]),
    (0, [0, 1]),
    (1, [0]),
    (2, [0, 1]),
    (1, [0]),
    (0, []),
    (None, []),
]

NESTED_LINES = [
    "call 0 1 0 5",
    "call 1 0 1 6",
    "call 0 2 0 7",
    "call 2 1 1 8",
    "call 1 2 0 9",
    "return 2 1 10",
    "return 1 2 11",
    "return 2 0 12",
    "return 0 1 13",
    "call 1 2 0 14",
    "return 2 1 15",
    "return 1 0 16",
    "end 17",
]


def fault_of_trace(interface, trace):
    """Return the index with which maker raises BadTrace, or None."""
    try:
        maker(interface, trace)
    except BadTrace as error:
        return error.at
    return None


def fault_of_lines(interface, lines):
    """Return the index with which read_trace raises BadTrace, or None."""
    try:
        read_trace(interface, lines)
    except BadTrace as error:
        return error.at
    return None


def expected_fault(rows, trace):
    """Return the index of the first event that breaks the rules, or None, found with a list of all that are busy."""
    busy = [0]
    for at, event in enumerate(trace):
        if not busy or (event[0] != "end" and event[1] != busy[-1]):
            return at
        if event[0] == "call":
            if (event[2], event[3]) not in rows[event[1]][1]:
                return at
            busy.append(event[2])
        else:
            busy.pop()
            if (busy[-1:] != [event[2]]) if event[0] == "return" else busy:
                return at
    return None


class MakerTest(unittest.TestCase):
    def assert_maker(self, interface, trace, expected):
        found = maker(interface, trace)
        self.assertEqual(found, expected)
        self.assertIs(type(found), tuple)
        self.assertIs(type(found[1]), list)
        self.assertIs(possible(interface, trace), True)

    def test_the_empty_trace(self):
        self.assert_maker(THREE, [], (0, []))
        self.assert_maker(ALONE, [], (0, []))

    def test_one_component(self):
        self.assert_maker(ALONE, [("end", 7)], (None, []))

    def test_a_call_a_return_and_the_end(self):
        trace = [("call", 0, 2, 0, 7), ("return", 2, 0, 8), ("end", 9)]
        for many, expected in enumerate([(0, []), (2, [0]), (0, []), (None, [])]):
            self.assert_maker(THREE, trace[:many], expected)

    def test_calls_within_calls(self):
        for many, expected in enumerate(TURNS):
            with self.subTest(many=many):
                self.assert_maker(THREE, NESTED[:many], expected)

    def test_the_list_of_those_that_wait_is_a_new_one(self):
        trace = NESTED[:4]
        found = maker(THREE, trace)
        found[1].append(9)
        self.assertEqual(maker(THREE, trace), (1, [0, 1, 0, 2]))

    def test_the_same_call_again_and_again(self):
        trace = [("call", 0, 1, 0, 0), ("return", 1, 0, 0)] * 500
        self.assert_maker(THREE, trace, (0, []))
        self.assert_maker(THREE, [("call", 0, 1, 0, 0), ("call", 1, 0, 1, 0)] * 500, (0, [0, 1] * 500))

    def test_the_words_are_not_looked_at(self):
        for word in (0, 65535, 65536, 10**9, -1):
            trace = [event[:-1] + (word,) for event in NESTED]
            self.assert_maker(THREE, trace, (None, []))

    def test_nothing_is_changed(self):
        trace = list(NESTED)
        interface = Interface(ROWS)
        maker(interface, trace)
        possible(interface, trace)
        made_by(trace, 0)
        trace_lines(trace)
        self.assertEqual(trace, NESTED)
        self.assertEqual(interface, Interface(ROWS))


class WrongTest(unittest.TestCase):
    def assert_fault(self, trace, at, interface=THREE):
        with self.subTest(trace=trace):
            self.assertEqual(fault_of_trace(interface, trace), at)
            self.assertIs(possible(interface, trace), False)
            self.assertEqual(fault_of_lines(interface, trace_lines(trace)), at)
            # What stands behind the fault is not looked at.
            self.assertEqual(fault_of_trace(interface, trace + [("end", 0), ("call", 9, 9, 9, 9)]), at)

    def test_the_error(self):
        with self.assertRaises(BlameError) as caught:
            maker(THREE, [("end", 0), ("end", 0)])
        self.assertIs(type(caught.exception), BadTrace)
        self.assertEqual(caught.exception.at, 1)

    def test_a_component_that_is_not_current(self):
        self.assert_fault([("call", 1, 2, 0, 0)], 0)
        self.assert_fault([("call", 0, 1, 0, 0), ("call", 0, 1, 0, 0)], 1)
        self.assert_fault([("call", 0, 1, 0, 0), ("return", 0, 0, 0)], 1)
        self.assert_fault([("call", 0, 1, 0, 0), ("return", 2, 0, 0)], 1)
        self.assert_fault([("call", 3, 1, 0, 0)], 0)
        self.assert_fault([("call", 65535, 1, 0, 0)], 0)

    def test_a_procedure_that_is_not_imported(self):
        # Of another component, one that is exported but not imported, and numbers that are not exported.
        self.assert_fault([("call", 0, 0, 1, 0)], 0)
        self.assert_fault([("call", 0, 2, 1, 0)], 0)
        self.assert_fault([("call", 0, 1, 2, 0)], 0)
        self.assert_fault([("call", 0, 3, 0, 0)], 0)
        self.assert_fault([("call", 0, 1, 0, 0), ("call", 1, 0, 0, 0)], 1)
        self.assert_fault([("call", 0, 1, 0, 0), ("call", 1, 2, 1, 0)], 1)
        self.assert_fault([("call", 0, 1, 0, 0)], 0, ALONE)

    def test_the_number_of_the_import_is_not_that_of_the_procedure(self):
        interface = Interface([(1, [(1, 2)]), (3, [])])
        self.assertEqual(fault_of_trace(interface, [("call", 0, 1, 2, 0)]), None)
        self.assert_fault([("call", 0, 1, 0, 0)], 0, interface)

    def test_a_return_to_another_component_than_the_last_one_that_waits(self):
        self.assert_fault([("call", 0, 1, 0, 0), ("return", 1, 2, 0)], 1)
        self.assert_fault([("call", 0, 1, 0, 0), ("return", 1, 1, 0)], 1)
        self.assert_fault([("call", 0, 1, 0, 0), ("call", 1, 2, 0, 0), ("return", 2, 0, 0)], 2)

    def test_a_return_where_nobody_waits(self):
        self.assert_fault([("return", 0, 1, 0)], 0)
        self.assert_fault([("return", 0, 0, 0)], 0)
        self.assert_fault([("call", 0, 1, 0, 0), ("return", 1, 0, 0), ("return", 0, 1, 0)], 2)

    def test_an_end_where_somebody_waits(self):
        self.assert_fault([("call", 0, 1, 0, 0), ("end", 0)], 1)
        self.assert_fault([("call", 0, 1, 0, 0), ("call", 1, 0, 1, 0), ("end", 0)], 2)

    def test_what_stands_behind_the_end(self):
        for event in (("end", 0), ("call", 0, 1, 0, 0), ("return", 0, 1, 0), ("return", 1, 0, 0)):
            self.assert_fault([("end", 0), event], 1)
            self.assert_fault(NESTED + [event], len(NESTED))

    def test_traces_with_one_event_changed(self):
        others = [("end", 0)]
        others.extend([("return", a, b, 0) for a in range(4) for b in range(4)])
        others.extend([("call", a, b, p, 0) for a in range(4) for b in range(4) for p in range(3)])
        changed = []
        for at in range(len(NESTED)):
            changed.append(NESTED[:at] + NESTED[at + 1 :])
            changed.append(NESTED[:at] + [NESTED[at]] + NESTED[at:])
            for other in others:
                changed.append(NESTED[:at] + [other] + NESTED[at:])
                changed.append(NESTED[:at] + [other] + NESTED[at + 1 :])
        faults = 0
        for trace in changed:
            at = expected_fault(ROWS, trace)
            if at is None:
                self.assertEqual(fault_of_trace(THREE, trace), None)
                self.assertIs(possible(THREE, trace), True)
                continue
            faults += 1
            self.assertEqual((fault_of_trace(THREE, trace), possible(THREE, trace)), (at, False), trace)
        self.assertGreater(faults, 1000)

    def test_an_event_left_out_and_one_doubled(self):
        # Without the first call, component 1 is not current; without the first return, component 2 still is.
        self.assert_fault(NESTED[1:], 0)
        self.assert_fault(NESTED[:5] + NESTED[6:], 5)
        self.assert_fault(NESTED[:1] + NESTED, 1)
        self.assert_fault(NESTED[:6] + NESTED[5:], 6)


class RunTest(unittest.TestCase):
    def test_the_traces_of_runs_can_come(self):
        for seed in range(150):
            interface, components = Lively(seed).program()
            trace = Process(interface, components).go(500, 40)
            self.assertIs(possible(interface, trace), True)
            self.assertEqual(read_trace(interface, trace_lines(trace)), trace)

    def test_the_traces_of_drawn_codes_can_come(self):
        longest = 0
        for seed in range(150):
            chance = Chance(seed)
            interface = chance.interface()
            trace = Machine(interface, chance.codes(interface)).go(500, 40)
            longest = max(longest, len(trace))
            self.assertIs(possible(interface, trace), True)
            self.assertEqual(read_trace(interface, trace_lines(trace)), trace)
        self.assertEqual(longest, 40)


class MadeByTest(unittest.TestCase):
    def test_each_component(self):
        self.assertEqual(made_by(NESTED, 0), [NESTED[0], NESTED[2], NESTED[8], NESTED[12]])
        self.assertEqual(made_by(NESTED, 1), [NESTED[1], NESTED[4], NESTED[6], NESTED[9], NESTED[11]])
        self.assertEqual(made_by(NESTED, 2), [NESTED[3], NESTED[5], NESTED[7], NESTED[10]])

    def test_one_that_makes_nothing(self):
        self.assertEqual(made_by(NESTED, 3), [])
        self.assertEqual(made_by([("call", 0, 1, 0, 7)], 1), [])
        self.assertEqual(made_by([], 0), [])

    def test_component_0_makes_the_end(self):
        self.assertEqual(made_by([("end", 1)], 0), [("end", 1)])
        # The word of the end is no component.
        self.assertEqual(made_by([("end", 1)], 1), [])

    def test_the_list_is_a_new_one(self):
        trace = [("end", 1)]
        found = made_by(trace, 0)
        found.append(("end", 2))
        self.assertEqual(trace, [("end", 1)])
        self.assertEqual(made_by(trace, 0), [("end", 1)])

    def test_the_same_event_twice(self):
        trace = [("call", 0, 1, 0, 5), ("return", 1, 0, 6)] * 2
        self.assertEqual(made_by(trace, 0), [trace[0]] * 2)
        self.assertEqual(made_by(trace, 1), [trace[1]] * 2)


class LinesTest(unittest.TestCase):
    def test_the_lines_of_each_kind_of_event(self):
        self.assertEqual(trace_lines([("call", 0, 1, 2, 65535)]), ["call 0 1 2 65535"])
        self.assertEqual(trace_lines([("return", 7, 0, 0)]), ["return 7 0 0"])
        self.assertEqual(trace_lines([("end", 10)]), ["end 10"])
        self.assertEqual(trace_lines([]), [])
        self.assertEqual(trace_lines(NESTED), NESTED_LINES)

    def test_reading_gives_the_trace_back(self):
        for many in range(len(NESTED) + 1):
            trace = read_trace(THREE, NESTED_LINES[:many])
            self.assertEqual(trace, NESTED[:many])
            self.assertIs(type(trace), list)
            self.assertTrue(all([type(event) is tuple for event in trace]))

    def test_words_up_to_65535(self):
        self.assertEqual(read_trace(ALONE, ["end 65535"]), [("end", 65535)])
        self.assertEqual(read_trace(ALONE, ["end 0"]), [("end", 0)])

    def assert_bad_line(self, line):
        with self.subTest(line=line):
            self.assertEqual(fault_of_lines(THREE, [line]), 0)
            self.assertEqual(fault_of_lines(THREE, NESTED_LINES[:6] + [line] + NESTED_LINES[6:]), 6)
            self.assertEqual(fault_of_lines(THREE, NESTED_LINES + [line]), len(NESTED))

    def test_a_word_too_few_or_too_many(self):
        for line in ("call", "call 0 1 0", "call 0 1 0 5 5", "return", "return 1 0", "return 1 2 11 0"):
            self.assert_bad_line(line)
        for line in ("end", "end 1 1"):
            self.assert_bad_line(line)

    def test_a_word_that_is_not_of_the_line(self):
        for line in ("begin 1", "0 1 0 5", "Call 0 1 0 5", "END 1", "returns 1 2 11", "end end", "call 0 one 0 5"):
            self.assert_bad_line(line)
        for line in ("call l0 1 0 5", "return 1 2 x", "end -1", "end +1", "end 1.0", "end 0x1", "end 1_0", "end 1,"):
            self.assert_bad_line(line)

    def test_numbers_that_are_none(self):
        for number in ("00", "01", "007", "65536", "99999", "100000", "000000", "\u0661", "\u00b2", ""):
            self.assert_bad_line(f"end {number}")
            self.assert_bad_line(f"return 1 2 {number}")
            self.assert_bad_line(f"return 1 {number} 11")
            self.assert_bad_line(f"call 0 1 0 {number}")
            self.assert_bad_line(f"call 0 1 {number} 5")
            self.assert_bad_line(f"call 0 {number} 0 5")
            self.assert_bad_line(f"call {number} 1 0 5")

    def test_spaces(self):
        for line in ("return  1 2 11", "return 1  2 11", " return 1 2 11", "return 1 2 11 ", "return 1 2 11  "):
            self.assert_bad_line(line)
        for line in ("end  17", " end 17", "end 17 ", "end\t17", "end 17\n"):
            self.assert_bad_line(line)

    def test_the_empty_line(self):
        for line in ("", " ", "  "):
            self.assert_bad_line(line)

    def test_a_line_that_cannot_come(self):
        self.assertEqual(fault_of_lines(THREE, ["call 0 1 0 5", "call 0 1 0 5"]), 1)
        self.assertEqual(fault_of_lines(THREE, NESTED_LINES[:3] + ["end 17"]), 3)
        self.assertEqual(fault_of_lines(THREE, NESTED_LINES + ["end 17"]), len(NESTED))
        self.assertEqual(fault_of_lines(THREE, ["call 65535 65535 65535 65535"]), 0)
        self.assertEqual(fault_of_lines(ALONE, ["call 0 1 0 5"]), 0)

    def test_the_first_of_two_wrong_lines(self):
        # One that cannot be read and one that cannot come, in both orders.
        self.assertEqual(fault_of_lines(THREE, ["call 0 1 0 5", "end 17", "end"]), 1)
        self.assertEqual(fault_of_lines(THREE, ["call 0 1 0 5", "end", "end 17"]), 1)
        self.assertEqual(fault_of_lines(THREE, ["end 01", "end 1", "end 01"]), 0)
        self.assertEqual(fault_of_lines(THREE, ["end 1", "end 1", "end 01"]), 1)

    def test_nothing_is_changed(self):
        lines = list(NESTED_LINES)
        interface = Interface(ROWS)
        read_trace(interface, lines).append("more")
        self.assertEqual(lines, NESTED_LINES)
        self.assertEqual(interface, Interface(copy.deepcopy(ROWS)))
        self.assertEqual(read_trace(interface, lines), NESTED)


if __name__ == "__main__":
    unittest.main()
