"""Compiling: points [22] and [23], and [24] with compiled components."""

import copy
import itertools
import unittest

from blameless.compiler import compile_component
from blameless.errors import BlameError, TooLarge
from blameless.interface import Interface
from blameless.language import Component, read_component
from blameless.machine import Code, Machine
from blameless.process import Process
from blameless.words import OPERATORS
from blameless.writer import component_text
from tests.helpers import Lively, with_body

MANY = 10**6
ALONE = Interface([(1, [])])
# Component 1 answers the word that it is passed: what 0 uses tells values.
PAIR = Interface([(1, [(1, 0)]), (1, [])])
ECHO = "room 3 procedures 1 procedure 1 return l0 end"


def compiled(interface, components, checks):
    """Return the codes of components; `checks` tells for each one whether it has checks."""
    rows = zip(components, interface.exports, checks, strict=True)
    return [compile_component(component, exports, checked=checked) for component, exports, checked in rows]


def steps_of_events(run, steps, events):
    """Go on step by step, and return how many steps each event took since the beginning."""
    found = []
    while run.state == "running" and run.steps < steps and len(found) < events:
        run.step()
        if len(run.trace) > len(found):
            found.append(run.steps)
    return found


class CompilerTestCase(unittest.TestCase):
    def assert_same(self, interface, components, checks, steps=1000, events=100):
        """Check that the machine does what the run of the texts does, and return this run."""
        process = Process(interface, components)
        steps_of_text = steps_of_events(process, steps, events)
        machine = Machine(interface, compiled(interface, components, checks))
        is_over = process.state in ("ended", "full") or (process.state == "undefined" and checks[process.blamed])
        steps_of_code = steps_of_events(machine, MANY, MANY if is_over else len(process.trace))
        self.assertEqual(machine.trace, process.trace)
        # Each step of a text takes at least one of the machine.
        self.assertTrue(all([few <= many for few, many in zip(steps_of_text, steps_of_code, strict=True)]))
        if is_over:
            self.assertEqual(machine.state, "ended" if process.state == "ended" else "stopped")
            self.assertGreaterEqual(machine.steps, process.steps)
        return process

    def assert_both(self, interface, components, state, **more):
        """Check components without checks and with, and that the run of the texts has this state."""
        for checked in (False, True):
            process = self.assert_same(interface, components, [checked] * len(components), **more)
            self.assertEqual(process.state, state)
        return process

    def assert_body(self, body, answer, **more):
        """Check a component with this body of procedure 0, which ends with this answer."""
        with self.subTest(body=body):
            component = read_component(with_body(body, **more), 1)
            process = self.assert_both(PAIR, [component, read_component(ECHO, 0)], "ended")
            self.assertEqual(process.trace[-1], ("end", answer))


class ExpressionTest(CompilerTestCase):
    def test_numbers_and_locals(self):
        for word in (0, 1, 255, 256, 65534, 65535):
            self.assert_body(f"return {word}", word)
        for local in range(16):
            self.assert_body(f"set l{local} 7 return l{local}", 7, locals_=16)
            self.assert_body(f"return l{local}", 0, locals_=16)

    def test_operators(self):
        words = (0, 1, 2, 9, 255, 256, 32768, 65534, 65535)
        for sign in OPERATORS:
            for left, right in itertools.product(words, repeat=2):
                component = read_component(with_body(f"set l1 {left} return {sign} l1 {right}"), 1)
                self.assert_same(ALONE, [component], [False])

    def test_the_order_of_the_parts(self):
        self.assert_body("return - 9 4", 5)
        self.assert_body("return - - 9 4 2", 3)
        self.assert_body("return - 9 - 4 2", 7)
        self.assert_body("return - - 9 4 - 8 1", 65534)
        self.assert_body("return / 100 / 20 5", 25)
        self.assert_body("return - - - 20 8 - 5 1 - - 7 2 - 3 1", 5)
        self.assert_body("set l1 3 set l2 50 return - - l2 l1 - l1 2", 46)

    def test_get(self):
        buffers = [[5, 6, 7], [1, 0, 2], [65535]]
        for buffer, words in enumerate(buffers):
            for index, word in enumerate(words):
                self.assert_body(f"return get b{buffer} {index}", word, buffers=buffers)
        self.assert_body("return get b0 get b1 get b1 0", 5, buffers=buffers)
        self.assert_body("return - get b0 get b1 2 get b0 / 5 5", 1, buffers=buffers)
        self.assert_body("set l1 2 return get b0 l1", 7, buffers=buffers)

    def test_buffers_of_the_largest_size(self):
        buffers = [list(range(number * 1000, number * 1000 + 1000)) for number in range(8)]
        for buffer in range(8):
            for index in (0, 1, 998, 999):
                self.assert_body(f"return get b{buffer} {index}", 1000 * buffer + index, buffers=buffers)

    def test_expressions_that_are_deeper_than_texts_have(self):
        expression = ("local", 0)
        for depth in range(1, 9):
            expression = ("-", ("-", expression, ("number", depth)), ("+", ("get", 0, ("number", 0)), expression))
            for statement in (("return", expression), ("put", 0, ("mod", expression, ("number", 1)), expression)):
                block = [("set", 0, ("number", 77)), statement, ("return", ("get", 0, ("number", 0)))]
                component = Component(9, [[3]], [(1, block)])
                self.assert_both(ALONE, [component], "ended")


    def test_deep_expressions_in_every_place(self):
        expression = ("local", 0)
        for depth in range(2, 8):
            expression = ("+", ("number", depth), ("+", expression, expression))
        for place in range(8):
            parts = [expression if place == number else ("number", 0) for number in range(8)]
            otherwise = [("set", 1, parts[2]), ("while", parts[3], [("return", ("number", 9))])]
            block = [("if", parts[0], [("set", 1, parts[1])], otherwise), ("call", 1, 1, parts[4])]
            block.extend([("put", 0, ("mod", parts[5], ("number", 2)), parts[6]), ("set", 1, parts[7])])
            block.append(("return", ("+", ("local", 1), ("+", ("get", 0, ("number", 0)), ("get", 0, ("number", 1))))))
            component = Component(20, [[3, 4]], [(2, block), (1, [("return", ("local", 0))])])
            self.assert_both(ALONE, [component], "ended")


class StatementTest(CompilerTestCase):
    def test_an_empty_procedure(self):
        self.assert_body("", 0)
        self.assert_body("set l0 7", 0)

    def test_set(self):
        self.assert_body("set l0 1 set l1 2 set l2 3 set l3 4 return + + * l0 1000 * l1 100 + * l2 10 l3", 1234)

    def test_put(self):
        buffers = [[1, 2, 3], [4, 5]]
        places = ["b0 0", "b0 1", "b0 2", "b1 0", "b1 1"]
        for body, words in [
            ("set l0 0", [1, 2, 3, 4, 5]),
            ("put b0 2 6", [1, 2, 6, 4, 5]),
            ("put b1 0 6", [1, 2, 3, 6, 5]),
            ("put b1 - get b0 1 1 get b1 0", [1, 2, 3, 4, 4]),
            ("put b0 0 0 put b0 0 7 put b0 1 get b0 0", [7, 7, 3, 4, 5]),
            ("put b0 + get b0 0 get b0 0 - - 9 1 - 3 1", [1, 2, 6, 4, 5]),
        ]:
            for place, word in zip(places, words):
                self.assert_body(f"{body} return get {place}", word, buffers=buffers)

    def test_return_ends_the_procedure(self):
        self.assert_body("return 5 return 6", 5)
        self.assert_body("while 1 return 5 end", 5)
        self.assert_body("if 1 if 1 while 1 return 8 end end end return 9", 8)

    def test_if(self):
        for test in (0, 1, 2, 256, 65535):
            self.assert_body(f"if {test} set l1 5 end return l1", 5 if test else 0)
            self.assert_body(f"if {test} set l1 5 else set l1 6 end return l1", 5 if test else 6)
            self.assert_body(f"if {test} else set l1 6 end return l1", 0 if test else 6)
            self.assert_body(f"if {test} end return 3", 3)

    def test_while(self):
        self.assert_body("while 0 set l1 1 end return l1", 0)
        self.assert_body("while < l1 10 set l1 + l1 1 set l2 + l2 l1 end return l2", 55)
        inner = "set l2 3 while l2 set l2 - l2 1 set l3 + l3 1 end"
        self.assert_body(f"set l1 3 while l1 {inner} set l1 - l1 1 end return l3", 9)

    def test_a_while_that_runs_for_ever(self):
        for body in ("while 1 end", "while 1 set l0 l0 end", "while 1 if 0 end end", "use l0 i0 4 while 1 end"):
            component = read_component(with_body(body), 1)
            self.assert_both(PAIR, [component, read_component(ECHO, 0)], "running")

    def test_a_while_that_makes_events_for_ever(self):
        component = read_component(with_body("while 1 use l1 i0 + l1 1 end"), 1)
        self.assert_both(PAIR, [component, read_component(ECHO, 0)], "running")

    def test_if_and_while_at_every_depth(self):
        for depth in range(1, 7):
            for kinds in itertools.product(("if", "while"), repeat=depth):
                body = " ".join([f"{kind} < l1 3" for kind in kinds])
                body = f"{body} set l1 + l1 1 use l2 i0 l1{' end' * depth} return + l1 l2"
                expected = 3 if "while" in kinds else 1
                self.assert_body(body, 2 * expected)

    def test_if_within_else(self):
        for number in range(6):
            body = f"set l0 {number}" + "".join([f" if = l0 {k} return {k + 10} else" for k in range(5)])
            self.assert_body(f"{body} return 99{' end' * 5}", number + 10 if number < 5 else 99)

    def test_blocks_that_are_deeper_than_texts_have(self):
        block = [("set", 1, ("+", ("local", 1), ("number", 1)))]
        for depth in range(12):
            loop = ("while", ("<", ("local", 1), ("number", 5)), block)
            block = [loop if depth % 2 else ("if", ("number", 1), block, [])]
        component = Component(9, [], [(2, block + [("return", ("local", 1))])])
        self.assertEqual(self.assert_both(ALONE, [component], "ended").trace, [("end", 5)])


class CallTest(CompilerTestCase):
    def test_a_call_of_an_own_procedure(self):
        self.assert_body("call l1 p1 20 return + l1 l0", 21, more=["procedure 1 return + l0 1 end"])
        self.assert_body("call l0 p1 20 return l0", 0, more=["procedure 1 end"])

    def test_the_locals_of_caller_and_callee_stay_apart(self):
        more = ["procedure 3 set l1 9 set l2 8 set l0 7 return l1 end"]
        self.assert_body("set l0 1 set l1 2 set l2 3 call l3 p1 5 return + * l0 100 + * l1 10 + l2 l3", 132, more=more)

    def test_the_locals_of_a_procedure_that_begins_again_are_0(self):
        more = ["procedure 3 if l0 set l1 7 set l2 8 end return + l1 l2 end"]
        self.assert_body("call l1 p1 1 call l2 p1 0 return + * l1 10 l2", 150, more=more)

    def test_a_procedure_that_calls_itself(self):
        factorial = "procedure 2 if l0 call l1 p1 - l0 1 return * l0 l1 end return 1 end"
        self.assert_body("call l1 p1 7 return l1", 5040, more=[factorial])
        fibonacci = "procedure 3 if < l0 2 return l0 end call l1 p1 - l0 1 call l2 p1 - l0 2 return + l1 l2 end"
        self.assert_body("call l1 p1 10 return l1", 55, more=[fibonacci])

    def test_procedures_that_call_each_other(self):
        more = [
            "procedure 1 if l0 call l0 p2 - l0 1 return l0 end return 1 end",
            "procedure 1 if l0 call l0 p1 - l0 1 return l0 end return 2 end",
        ]
        self.assert_body("call l1 p1 10 call l2 p1 11 return + * l1 10 l2", 12, more=more)

    def test_a_call_of_procedure_0(self):
        self.assert_body("if < get b0 0 3 put b0 0 + get b0 0 1 call l1 p0 0 end return + l1 1", 4, buffers=[[0]])

    def test_calls_among_8_procedures(self):
        more = [f"procedure {number} call l0 p{number + 1} + l0 {number} return l0 end" for number in range(1, 7)]
        self.assert_body("call l1 p1 0 return l1", 42, more=more + ["procedure 16 return * 2 l0 end"])

    def test_uses(self):
        self.assert_body("use l1 i0 9 use l2 i0 + l1 1 return + * l1 100 l2", 910)
        self.assert_body("set l3 4 use l1 i0 9 return l3", 4)

    def test_a_use_in_a_procedure_that_was_called(self):
        more = ["procedure 2 use l1 i0 l0 use l0 i0 * l1 2 return + l0 l1 end"]
        self.assert_body("set l2 1 call l1 p1 5 return + l1 l2", 16, more=more)

    def test_uses_in_turn(self):
        interface = Interface([(1, [(1, 0), (2, 1)]), (1, [(2, 0)]), (2, [])])
        texts = [
            "room 9 procedures 1 procedure 3 use l1 i0 5 use l2 i1 l1 return - l2 l1 end",
            "room 9 procedures 1 procedure 2 use l1 i0 + l0 1 return * l1 2 end",
            "room 9 procedures 2 buffer 1 4 procedure 1 put b0 0 l0 return + l0 1 end procedure 1 return get b0 0 end",
        ]
        components = [read_component(text, len(pairs)) for text, pairs in zip(texts, interface.imports)]
        process = self.assert_both(interface, components, "ended")
        self.assertEqual([event[-1] for event in process.trace], [5, 6, 7, 14, 14, 6, 65528])

    def test_uses_back_into_the_first_component(self):
        interface = Interface([(2, [(1, 0)]), (1, [(0, 1)])])
        texts = [
            "room 60 procedures 2 buffer 1 0 procedure 2 use l1 i0 5 return + * l1 100 get b0 0 end "
            "procedure 3 put b0 0 + get b0 0 1 if l0 use l2 i0 - l0 1 end return + l2 l0 end",
            "room 60 procedures 1 procedure 2 set l1 l0 use l0 i0 l0 return + l0 l1 end",
        ]
        components = [read_component(text, 1) for text in texts]
        process = self.assert_both(interface, components, "ended")
        self.assertEqual(len(process.trace), 25)
        self.assertEqual(process.trace[-1], ("end", 3006))


class DrawnTest(CompilerTestCase):
    def test_drawn_programs(self):
        states = []
        lengths = []
        for seed in range(400):
            lively = Lively(seed)
            interface, components = lively.program()
            checks = [lively.random.random() < 0.5 for _ in components]
            process = self.assert_same(interface, components, checks, steps=300, events=40)
            states.append((process.state, process.state == "undefined" and checks[process.blamed]))
            lengths.append(len(process.trace))
        for state in ("running", "ended", "full"):
            self.assertGreater(states.count((state, False)), 15)
        self.assertGreater(states.count(("undefined", True)), 2)
        self.assertGreater(len([length for length in lengths if length > 3]), 40)


class RoomTest(CompilerTestCase):
    def test_the_first_procedure(self):
        for local_count in (1, 2, 9, 16):
            for room in (0, 1, local_count + 1, local_count + 2, local_count + 3, 20000):
                text = f"room {room} procedures 1 procedure {local_count} return 5 end"
                state = "ended" if room >= local_count + 2 else "full"
                self.assert_both(ALONE, [read_component(text, 0)], state)

    def test_one_that_has_no_room_stops_without_events(self):
        machine = Machine(ALONE, [compile_component(read_component("room 2 procedures 1 procedure 1 end", 0), 1)])
        self.assertEqual((machine.go(MANY, MANY), machine.state), ([], "stopped"))

    def test_own_calls(self):
        # Each call leaves one deeper; the frames of procedure 1 take 4 words each, that of procedure 0 takes 3.
        more = "procedure 2 use l1 i0 l0 if l0 call l1 p1 - l0 1 end return + l1 1 end"
        for room in range(40):
            text = f"room {room} procedures 2 procedure 1 call l0 p1 6 return l0 end {more}"
            state = "ended" if room >= 3 + 7 * 4 else "full"
            process = self.assert_both(PAIR, [read_component(text, 1), read_component(ECHO, 0)], state)
            calls = max(0, (room - 3) // 4) if room >= 3 else 0
            self.assertEqual(len(process.trace), 2 * min(calls, 7) + (state == "ended"))

    def test_the_room_of_a_procedure_that_ended_is_free_again(self):
        text = "room 6 procedures 2 procedure 1 while < l0 50 call l0 p1 l0 end use l0 i0 l0 return l0 end "
        text += "procedure 1 return + l0 1 end"
        process = self.assert_both(PAIR, [read_component(text, 1), read_component(ECHO, 0)], "ended")
        self.assertEqual(process.trace[-1], ("end", 50))

    def test_a_procedure_of_another_component(self):
        caller = read_component("room 3 procedures 1 procedure 1 use l0 i0 7 return l0 end", 1)
        for room in range(6):
            echo = read_component(f"room {room} procedures 1 procedure 2 return l0 end", 0)
            process = self.assert_both(PAIR, [caller, echo], "ended" if room >= 4 else "full")
            # The call is made even if there is no room.
            self.assertEqual(process.trace[0], ("call", 0, 1, 0, 7))
            self.assertEqual(len(process.trace), 3 if room >= 4 else 1)

    def test_the_frames_of_one_that_is_used_again_count_together(self):
        interface = Interface([(2, [(1, 0)]), (1, [(0, 1)])])
        again = "procedure 3 if l0 use l1 i0 - l0 1 end return + l1 1 end"
        for room in range(60):
            # Frames of component 0: first one of 3 words, then four of 5 words.
            first = read_component(f"room {room} procedures 2 procedure 1 use l0 i0 3 return l0 end {again}", 1)
            other = read_component("room 40 procedures 1 procedure 1 use l0 i0 l0 return l0 end", 1)
            state = "ended" if room >= 3 + 4 * 5 else "full"
            process = self.assert_both(interface, [first, other], state)
            self.assertEqual(len(process.trace) == 17, state == "ended")
            if state == "full" and room >= 3:
                self.assertEqual(len(process.trace), 2 + 2 * ((room - 3) // 5))

    def test_the_room_of_those_that_returned_is_free_again(self):
        interface = Interface([(2, [(1, 0)]), (1, [(0, 1)])])
        text = "room 9 procedures 2 procedure 2 while < l0 20 use l1 i0 l0 set l0 + l0 1 end return l1 end "
        first = read_component(text + "procedure 3 return + l0 5 end", 1)
        other = read_component("room 3 procedures 1 procedure 1 use l0 i0 l0 return l0 end", 1)
        process = self.assert_both(interface, [first, other], "ended")
        self.assertEqual((len(process.trace), process.trace[-1]), (81, ("end", 24)))

    def test_own_calls_and_uses_together(self):
        interface = Interface([(2, [(1, 0)]), (1, [(0, 1)])])
        # While component 0 waits, it has the frames of procedures 0, 2, 2 and 1: 3, 4, 4 and 5 words.
        rest = "procedure 3 return l0 end procedure 2 if l0 call l1 p2 0 else use l1 i0 9 end return l1 end"
        other = read_component("room 3 procedures 1 procedure 1 use l0 i0 l0 return l0 end", 1)
        for room in range(3, 24):
            first = read_component(f"room {room} procedures 3 procedure 1 call l0 p2 1 return l0 end {rest}", 1)
            process = self.assert_both(interface, [first, other], "ended" if room >= 16 else "full")
            self.assertEqual(len(process.trace), 5 if room >= 16 else 2 if room >= 11 else 0)

    def test_a_frame_that_is_larger_than_the_room(self):
        # The first frame fits, the one that is called never does.
        more = ["procedure 16 return 1 end"]
        for room in (3, 4, 17, 20):
            text = with_body("use l0 i0 1 call l0 p1 1 use l0 i0 2", room=room, locals_=1, more=more)
            self.assert_both(PAIR, [read_component(text, 1), read_component(ECHO, 0)], "full")

    def test_endless_calls(self):
        for room in (3, 100, 20000):
            text = f"room {room} procedures 1 procedure 1 call l0 p0 0 end"
            process = self.assert_both(ALONE, [read_component(text, 0)], "full", steps=10000)
            self.assertEqual(process.steps, room // 3)


def statements_of_size(count):
    """Return a body of statements, operators and `get`, so many in all, that takes much code."""
    heavy = "put b0 + l1 get b1 1 - get b1 0 l2"
    return " ".join([heavy] * (count // 5) + ["use l1 i0 l2"] * (count % 5))


class SizeTest(CompilerTestCase):
    def test_the_largest_promised_components(self):
        buffers = [[1] * 1000] * 4
        tree = "+ + * l0 l1 - l2 l3 / + l4 l5 mod l6 l7"
        # Each body has 400 statements, operators and `get` in all.
        bodies = [
            statements_of_size(400),
            " ".join(["put b0 l0 l1"] * 400),
            " ".join(["use l15 i7 l1"] * 400),
            " ".join(["call l15 p7 l1"] * 400),
            " ".join(["return l1"] * 400),
            " ".join(["set l1 get b3 get b2 get b1 l1"] * 100),
            " ".join([f"set l1 {tree}"] * 50),
            " ".join(["if l1 while l2 if l3 while l4 if l5 while l6 end else set l1 1 end end end end end"] * 57),
        ]
        for body in bodies:
            text = with_body(body, room=2000, locals_=16, buffers=buffers, more=["procedure 16 return l15 end"] * 7)
            component = read_component(text, 8)
            for checked in (False, True):
                for exported in (1, 8):
                    code = compile_component(component, exported, checked=checked)
                    self.assertLessEqual(len(code.memory), 60000)
                    self.assertEqual(len(code.entries), exported)

    def test_a_large_component_runs(self):
        body = statements_of_size(399) + " return + get b0 1 l1"
        text = with_body(body, room=2000, locals_=16, buffers=[[1] * 1000] * 4)
        self.assert_both(PAIR, [read_component(text, 1), read_component(ECHO, 0)], "ended")

    def test_the_largest_room_and_buffers(self):
        text = with_body("put b7 999 7 call l1 p0 0", room=20000, locals_=16, buffers=[[1] * 1000] * 8)
        self.assert_both(ALONE, [read_component(text, 0)], "full", steps=MANY)

    def test_a_component_that_is_too_large(self):
        text = with_body(" ".join(["set l1 + l2 3"] * 15001), room=20)
        component = read_component(text, 0)
        for checked in (False, True):
            with self.assertRaises(TooLarge) as caught:
                compile_component(component, 1, checked=checked)
            self.assertEqual(caught.exception.what, "memory")
            self.assertIsInstance(caught.exception, BlameError)

    def test_checks_take_part_in_the_size(self):
        # What is too large with checks may still be compiled without.
        sizes = []
        for count in range(100, 6000, 100):
            component = Component(20, [[1]], [(1, [("put", 0, ("number", 0), ("number", 1))] * count)])
            for checked in (False, True):
                try:
                    sizes.append(len(compile_component(component, 1, checked=checked).memory))
                except TooLarge:
                    sizes.append(None)
        self.assertIn(None, sizes)
        self.assertNotIn(None, sizes[:20])
        self.assertTrue(all([size is None or size <= 60000 for size in sizes]))

    def test_exactly_as_large_as_may_be(self):
        # Only the first words of a buffer that is larger than texts have differ, so the sizes differ by 1 each.
        base = len(compile_component(Component(20, [[0]], [(1, [])]), 1).memory)
        for size in (60000, 60001):
            component = Component(20, [[7] * (size - base + 1)], [(1, [])])
            if size == 60000:
                self.assertEqual(len(compile_component(component, 1).memory), 60000)
            else:
                self.assertRaises(TooLarge, compile_component, component, 1)


class EntriesTest(CompilerTestCase):
    def test_entries_for_each_number_of_exported_procedures(self):
        words = " ".join([f"procedure {number + 1} return + l0 {number} end" for number in range(8)])
        component = read_component(f"room 18 procedures 8 {words}", 0)
        for exported in range(1, 9):
            for checked in (False, True):
                code = compile_component(component, exported, checked=checked)
                self.assertIs(type(code), Code)
                self.assertEqual(len(code.entries), exported)
                self.assertEqual(len(set(code.entries)), exported)
                interface = Interface([(1, [(1, number) for number in range(exported)]), (exported, [])])
                uses = " ".join([f"use l1 i{number} 50 set l2 + l2 l1" for number in range(exported)])
                caller = read_component(f"room 9 procedures 1 procedure 3 {uses} return l2 end", exported)
                machine = Machine(interface, [compile_component(caller, 1), code])
                answers = [event[-1] for event in machine.go(MANY, MANY) if event[0] == "return"]
                self.assertEqual(answers, [50 + number for number in range(exported)])

    def test_the_memory_and_the_entries_are_words(self):
        for seed in range(100):
            interface, components = Lively(seed).program()
            for exported, component in zip(interface.exports, components):
                for checked in (False, True):
                    code = compile_component(component, exported, checked=checked)
                    self.assertTrue(all([0 <= word <= 65535 for word in code.memory + code.entries]))
        for room in (0, 1, 17):
            code = compile_component(Component(room, [], [(16, [])]), 1)
            self.assertTrue(all([0 <= word <= 65535 for word in code.memory]))

    def test_there_are_no_checks_if_they_are_not_asked_for(self):
        component = read_component(with_body("put b0 l1 get b0 l2", buffers=[[1]]), 0)
        plain = compile_component(component, 1)
        self.assertEqual(plain, compile_component(component, 1, checked=False))
        self.assertLess(len(plain.memory), len(compile_component(component, 1, checked=True).memory))

    def test_checked_is_passed_by_keyword(self):
        component = read_component(ECHO, 0)
        self.assertRaises(TypeError, compile_component, component, 1, True)


class CheckTest(CompilerTestCase):
    # Each body does something undefined behind one event, and would make another one after it.
    BODIES = (
        "set l1 get b0 3",
        "set l1 get b0 65535",
        "set l1 get b1 1",
        "put b0 3 1",
        "put b0 65535 1",
        "put b1 1 1",
        "put b0 get b0 3 1",
        "put b0 0 get b0 3",
        "put b0 3 get b0 3",
        "set l1 get b0 get b0 3",
        "set l1 get b0 get b0 get b1 1",
        "set l1 get b0 + get b0 1 1",
        "set l1 + get b0 3 1",
        "set l1 + 1 get b0 3",
        "set l1 * 0 get b0 3",
        "set l1 + + 1 2 + 3 get b0 3",
        "set l1 * get b0 0 + get b0 1 get b0 3",
        "if get b0 3 end",
        "if get b0 3 use l1 i0 8 else use l1 i0 9 end",
        "if 1 set l1 get b0 3 end",
        "if 0 else set l1 get b0 3 end",
        "while get b0 3 end",
        "while get b0 3 use l1 i0 8 end",
        "while < get b0 l2 9 set l2 + l2 1 end",
        "while 1 put b0 l2 7 set l2 + l2 1 end",
        "use l1 i0 get b0 3",
        "call l1 p1 get b0 3",
        "call l1 p1 3",
        "return get b0 3",
    )
    BUFFERS = [[1, 2, 0], [5]]
    MORE = ["procedure 1 return get b0 l0 end"]

    def component(self, body):
        return read_component(with_body(body, buffers=self.BUFFERS, more=self.MORE), 1)

    def test_it_stops_at_each_undefined_step(self):
        for body in self.BODIES:
            with self.subTest(body=body):
                component = self.component(f"use l0 i0 4 {body} use l0 i0 5 return 6")
                for echo_checked in (False, True):
                    process = self.assert_same(PAIR, [component, read_component(ECHO, 0)], [True, echo_checked])
                    self.assertEqual((process.state, process.blamed), ("undefined", 0))
                    self.assertEqual(process.trace, [("call", 0, 1, 0, 4), ("return", 1, 0, 4)])

    def test_it_stops_before_the_first_event(self):
        for body in self.BODIES:
            with self.subTest(body=body):
                components = [self.component(body), read_component(ECHO, 0)]
                machine = Machine(PAIR, compiled(PAIR, components, [True, True]))
                self.assertEqual((machine.go(MANY, MANY), machine.state), ([], "stopped"))

    def test_without_checks_it_makes_the_same_events_before(self):
        for body in self.BODIES:
            with self.subTest(body=body):
                component = self.component(f"use l0 i0 4 {body} use l0 i0 5 return 6")
                process = self.assert_same(PAIR, [component, read_component(ECHO, 0)], [False, False])
                self.assertEqual(process.state, "undefined")

    def test_every_index_of_a_buffer(self):
        for size in (1, 2, 9, 1000):
            for index in (0, 1, size - 1, size, size + 1, 65535):
                for body in (f"set l1 get b1 {index}", f"put b1 {index} 3"):
                    text = with_body(body, buffers=[[9], [8] * size, [7]])
                    component = read_component(text, 0)
                    process = self.assert_same(ALONE, [component], [True])
                    self.assertEqual(process.state, "ended" if index < size else "undefined")

    def test_another_component_that_does_something_undefined(self):
        caller = read_component("room 9 procedures 1 procedure 1 use l0 i0 1 use l0 i0 5 return 7 end", 1)
        reader = read_component("room 9 procedures 1 buffer 2 5 6 procedure 1 return get b0 l0 end", 0)
        for checked in (False, True):
            process = self.assert_same(PAIR, [caller, reader], [checked, True])
            self.assertEqual((process.blamed, len(process.trace)), (1, 3))

    def test_a_store_that_is_not_checked_stays_in_its_component(self):
        # What it does is what its words say: it makes some trace, and the other memory stays.
        writer = read_component(with_body("while 1 put b0 l1 16 set l1 + l1 1 end", buffers=[[0]]), 1)
        machine = Machine(PAIR, compiled(PAIR, [writer, read_component(ECHO, 0)], [False, False]))
        memory = list(machine.memories[1])
        machine.go(10000, 1)
        self.assertEqual(machine.memories[1], memory)


class MixtureTest(CompilerTestCase):
    def test_mixtures_of_code_with_checks_and_without(self):
        tried = 0
        for seed in range(120):
            interface, components = Lively(seed).program()
            if interface.size() > 4:
                continue
            process = Process(interface, components)
            trace = process.go(200, 30)
            both = [compiled(interface, components, [checked] * len(components)) for checked in (False, True)]
            machines = [Machine(interface, codes) for codes in both]
            for machine in machines:
                self.assertEqual(machine.go(MANY, len(trace)), trace)
            together = machines[0].steps + machines[1].steps
            tried += len(trace) > 3
            for choice in itertools.product((0, 1), repeat=len(components)):
                mixed = Machine(interface, [both[side][at] for at, side in enumerate(choice)])
                self.assertEqual(mixed.go(together, len(trace)), trace)
        self.assertGreater(tried, 10)

    def test_mixtures_with_code_that_was_written_by_hand(self):
        interface = Interface([(1, [(1, 0)]), (1, [(2, 0)]), (1, [])])
        texts = [
            "room 5 procedures 1 procedure 1 use l0 i0 7 return l0 end",
            "room 5 procedures 1 procedure 1 use l0 i0 * l0 2 return + l0 1 end",
            "room 5 procedures 1 procedure 1 return - l0 4 end",
        ]
        components = [read_component(text, len(pairs)) for text, pairs in zip(texts, interface.imports)]
        by_hand = [
            Code([1, 0, 7, 0, 15, 0, 0, 0, 16, 0, 0, 0], [0]),
            Code([3, 0, 0, 0, 15, 0, 0, 0, 1, 1, 1, 0, 3, 0, 0, 1, 16, 0, 0, 0], [0]),
            Code([1, 1, 4, 0, 4, 0, 0, 1, 16, 0, 0, 0], [0]),
        ]
        trace = Process(interface, components).go(MANY, MANY)
        self.assertEqual([event[-1] for event in trace], [7, 14, 10, 11, 11])
        choices = [compiled(interface, components, [False] * 3), compiled(interface, components, [True] * 3), by_hand]
        for choice in itertools.product(range(3), repeat=3):
            mixed = Machine(interface, [choices[side][at] for at, side in enumerate(choice)])
            self.assertEqual((mixed.go(MANY, MANY), mixed.state), (trace, "ended"))


class UnchangedTest(unittest.TestCase):
    def test_the_component_stays_and_the_code_is_the_same_again(self):
        for seed in range(60):
            interface, components = Lively(seed).program()
            for exported, component in zip(interface.exports, components):
                before = copy.deepcopy((component.room, component.buffers, component.procedures))
                text = component_text(component)
                for checked in (False, True):
                    code = compile_component(component, exported, checked=checked)
                    self.assertEqual(compile_component(component, exported, checked=checked), code)
                self.assertEqual((component.room, component.buffers, component.procedures), before)
                self.assertEqual(component_text(component), text)

    def test_a_run_does_not_change_the_code(self):
        component = read_component(with_body("put b0 0 7 return get b0 0", buffers=[[1]]), 0)
        code = compile_component(component, 1)
        Machine(ALONE, [code]).go(MANY, MANY)
        self.assertEqual(code, compile_component(component, 1))
        self.assertEqual(Machine(ALONE, [code]).go(MANY, MANY), [("end", 7)])


class ExampleTest(unittest.TestCase):
    def test_the_example_of_the_machine(self):
        machine = Machine(Interface([(1, [])]), [Code([1, 3, 5, 0, 16, 3, 0, 0], [0])])
        self.assertEqual(machine.go(10, 10), [("end", 5)])

    def test_the_example_of_the_run_of_texts_compiled(self):
        caller = read_component("room 5 procedures 1 procedure 1 use l0 i0 7 return l0 end", 1)
        doubler = read_component("room 3 procedures 1 procedure 1 return * l0 2 end", 0)
        expected = [("call", 0, 1, 0, 7), ("return", 1, 0, 14), ("end", 14)]
        for checks in itertools.product((False, True), repeat=2):
            self.assertEqual(Machine(PAIR, compiled(PAIR, [caller, doubler], checks)).go(MANY, MANY), expected)


if __name__ == "__main__":
    unittest.main()
