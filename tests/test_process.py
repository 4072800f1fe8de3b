"""The run of texts: points [11] to [14], and point [15] as far as it says which events a run makes."""

import copy
import unittest

from blameless.interface import Interface
from blameless.language import Component, read_component
from blameless.process import Process
from blameless.words import OPERATORS, combine
from tests.helpers import alone, process_of, with_body

MANY = 10000
FIELDS = ("trace", "state", "blamed", "steps")
PAIR = [(1, [(1, 0)]), (1, [])]


def fields(process):
    return tuple([getattr(process, name) for name in FIELDS])


class ProcessTestCase(unittest.TestCase):
    def assert_ends(self, process, answer, steps):
        """Check that a run without calls ends with this answer, at this step."""
        process.go(MANY, MANY)
        self.assertEqual(fields(process), ([("end", answer)], "ended", None, steps))

    def assert_body(self, body, answer, steps, **more):
        with self.subTest(body=body):
            self.assert_ends(alone(body, **more), answer, steps)

    def assert_undefined(self, body, steps, **more):
        with self.subTest(body=body):
            process = alone(body, **more)
            process.go(MANY, MANY)
            self.assertEqual(fields(process), ([], "undefined", 0, steps))

    def assert_run(self, process, trace, state, blamed, steps):
        self.assertEqual(process.go(MANY, MANY), trace)
        self.assertEqual(fields(process), (trace, state, blamed, steps))


class BeginTest(ProcessTestCase):
    def test_the_fields_at_the_beginning(self):
        process = alone("return 5")
        self.assertEqual(fields(process), ([], "running", None, 0))
        self.assertIs(type(process.trace), list)

    def test_the_run_begins_with_procedure_0_of_component_0(self):
        texts = [
            "room 9 procedures 2 procedure 1 return 10 end procedure 1 return 11 end",
            "room 9 procedures 2 procedure 1 return 20 end procedure 1 return 21 end",
        ]
        self.assert_run(process_of([(2, []), (2, [])], texts), [("end", 10)], "ended", None, 1)

    def test_the_first_word_and_the_other_locals_are_0(self):
        for local in range(16):
            self.assert_body(f"return + l{local} 7", 7, 1, locals_=16)

    def test_the_locals_of_a_procedure_that_was_called(self):
        for local in range(4):
            text = "room 99 procedures 2 procedure 1 call l0 p1 7 return l0 end "
            text += f"procedure 4 return + 1 l{local} end"
            self.assert_ends(process_of([(1, [])], [text]), 8 if local == 0 else 1, 3)

    def test_the_locals_are_0_again_at_each_call(self):
        text = "room 99 procedures 2 procedure 2 call l0 p1 7 call l1 p1 8 return + * l0 100 l1 end "
        text += "procedure 2 set l1 + l1 l0 return l1 end"
        self.assert_ends(process_of([(1, [])], [text]), 708, 7)

    def test_the_locals_of_the_caller_are_kept(self):
        text = "room 99 procedures 2 procedure 3 set l1 5 set l2 6 call l0 p1 7 return + + l0 * l1 10 * l2 100 end "
        text += "procedure 3 set l0 90 set l1 91 set l2 92 return 1 end"
        self.assert_ends(process_of([(1, [])], [text]), 651, 8)

    def test_the_locals_of_two_frames_of_one_procedure(self):
        # The sum of the numbers from 5 down to 0.
        text = "room 99 procedures 2 procedure 1 call l0 p1 5 return l0 end "
        text += "procedure 2 if l0 call l1 p1 - l0 1 return + l0 l1 end return 0 end"
        self.assert_ends(process_of([(1, [])], [text]), 15, 2 + 5 * 3 + 2)


class RoomTest(ProcessTestCase):
    def test_the_first_procedure(self):
        for count in (1, 2, 16):
            self.assert_body("", 0, 1, locals_=count, room=count + 2)
            for room in (count + 1, 1, 0):
                process = alone("", locals_=count, room=room)
                self.assertEqual(fields(process), ([], "full", None, 0))
                self.assertEqual(process.go(MANY, MANY), [])
                self.assertEqual(fields(process), ([], "full", None, 0))

    def test_a_call_of_an_own_procedure(self):
        for first in (1, 3):
            for called in (1, 4):
                text = f"procedures 2 procedure {first} call l0 p1 5 return l0 end "
                text += f"procedure {called} return + l0 1 end"
                room = first + called + 4
                for more in (0, 1, 50):
                    process = process_of([(1, [])], [f"room {room + more} {text}"])
                    self.assert_run(process, [("end", 6)], "ended", None, 3)
                process = process_of([(1, [])], [f"room {room - 1} {text}"])
                self.assert_run(process, [], "full", None, 1)

    def test_a_use(self):
        caller = with_body("use l0 i0 7 return l0", room=6)
        trace = [("call", 0, 1, 0, 7), ("return", 1, 0, 14), ("end", 14)]
        for count in (1, 2, 16):
            doubler = f"procedures 1 procedure {count} return * l0 2 end"
            self.assert_run(process_of(PAIR, [caller, f"room {count + 2} {doubler}"]), trace, "ended", None, 3)
            self.assert_run(process_of(PAIR, [caller, f"room {count + 1} {doubler}"]), trace[:1], "full", None, 1)
            self.assert_run(process_of(PAIR, [caller, f"room 0 {doubler}"]), trace[:1], "full", None, 1)

    def test_a_call_back_takes_the_room_of_its_own_component(self):
        rows = [(2, [(1, 0)]), (1, [(0, 1)])]
        first = "procedures 2 procedure 1 use l0 i0 7 return l0 end procedure 2 return + l0 1 end"
        second = with_body("use l0 i0 + l0 1 return l0", locals_=1, room=3)
        calls = [("call", 0, 1, 0, 7), ("call", 1, 0, 1, 8)]
        trace = calls + [("return", 0, 1, 9), ("return", 1, 0, 9), ("end", 9)]
        self.assert_run(process_of(rows, [f"room 7 {first}", second]), trace, "ended", None, 5)
        self.assert_run(process_of(rows, [f"room 6 {first}", second]), calls, "full", None, 2)

    def test_the_room_of_another_component_does_not_count(self):
        caller = with_body("use l0 i0 7 return l0", locals_=1, room=3)
        doubler = with_body("return * l0 2", locals_=16, room=18)
        trace = [("call", 0, 1, 0, 7), ("return", 1, 0, 14), ("end", 14)]
        self.assert_run(process_of(PAIR, [caller, doubler]), trace, "ended", None, 3)

    def test_the_room_is_free_again_when_a_procedure_ends(self):
        for end in ("return 1", "", "if 1 while 1 return 2 end end"):
            body = "set l1 9 while l1 call l0 p1 0 set l1 - l1 1 end return 4"
            more = [f"procedure 3 {end} end".replace("  ", " ")]
            process = alone(body, locals_=2, room=9, more=more)
            self.assertEqual(process.go(MANY, MANY), [("end", 4)])
            process = alone(body, locals_=2, room=8, more=more)
            self.assertEqual(process.go(MANY, MANY), [])
            self.assertEqual(process.state, "full")

    def test_the_room_is_free_again_when_a_used_procedure_ends(self):
        caller = with_body("set l1 9 while l1 use l0 i0 l1 set l1 - l1 1 end", locals_=2, room=4)
        for answer in ("return l0", ""):
            process = process_of(PAIR, [caller, with_body(answer, locals_=5, room=7)])
            self.assertEqual(len(process.go(MANY, MANY)), 19)
            self.assertEqual(process.state, "ended")

    def test_as_many_frames_as_the_room_holds(self):
        process = alone("call l0 p0 + l0 1", locals_=1, room=20000)
        process.go(MANY, MANY)
        self.assertEqual(fields(process), ([], "full", None, 6666))

    def test_many_frames_that_end(self):
        # 6665 calls are in each other before the first one ends.
        text = "room 20000 procedures 2 procedure 1 call l0 p1 6664 return l0 end "
        text += "procedure 1 if l0 call l0 p1 - l0 1 return + l0 1 end end"
        process = process_of([(1, [])], [text])
        process.go(100000, 1)
        self.assertEqual(fields(process), ([("end", 6664)], "ended", None, 2 + 6664 * 3 + 2))

    def test_the_argument_is_evaluated_before_the_room_is_looked_at(self):
        process = alone("call l0 p0 get b0 1", buffers=[[5]], locals_=1, room=3)
        self.assert_run(process, [], "undefined", 0, 1)


class BuffersTest(ProcessTestCase):
    def test_the_first_words(self):
        for index, word in enumerate((7, 0, 65535)):
            self.assert_body(f"return get b1 {index}", word, 1, buffers=[[1, 2, 3], [7, 0, 65535]])

    def test_put_and_get(self):
        body = "put b0 2 9 put b1 l0 8 put b0 1 get b0 2 "
        body += "set l1 + * 10 get b0 0 get b1 0 return + * 100 get b0 1 l1"
        self.assert_body(body, 9 * 100 + 10 + 8, 5, buffers=[[1, 2, 3], [4]])

    def test_put_takes_what_the_buffer_held_before(self):
        self.assert_body("put b0 get b0 0 + get b0 1 5 return get b0 1", 7, 2, buffers=[[1, 2]])
        self.assert_body("put b0 0 get b0 1 return get b0 0", 2, 2, buffers=[[1, 2]])

    def test_the_procedures_of_a_component_share_its_buffers(self):
        body = "call l0 p1 5 return + get b0 0 * 10 l0"
        self.assert_body(body, 36, 4, buffers=[[1]], more=["procedure 1 put b0 0 + l0 1 return 3 end"])

    def test_the_buffers_of_two_components_are_apart(self):
        caller = with_body("put b0 0 5 use l0 i0 7 return + * 100 get b0 0 l0", buffers=[[1]])
        other = with_body("put b0 0 + get b0 0 l0 return get b0 0", buffers=[[2]])
        trace = [("call", 0, 1, 0, 7), ("return", 1, 0, 9), ("end", 509)]
        self.assert_run(process_of(PAIR, [caller, other]), trace, "ended", None, 5)

    def test_two_components_with_the_same_data(self):
        caller = with_body("use l0 i0 0 use l1 i0 0 return + * 10 l1 get b0 0", buffers=[[1]])
        counter = read_component(with_body("put b0 0 + get b0 0 1 return get b0 0", buffers=[[1]]), 0)
        rows = [(1, [(1, 0), (2, 0)]), (1, []), (1, [])]
        process = Process(Interface(rows), [read_component(caller, 2), counter, counter])
        self.assertEqual(process.go(MANY, MANY)[-1], ("end", 31))
        other = caller.replace("l1 i0", "l1 i1")
        process = Process(Interface(rows), [read_component(other, 2), counter, counter])
        self.assertEqual(process.go(MANY, MANY)[-1], ("end", 21))

    def test_a_buffer_keeps_its_words_between_calls(self):
        caller = with_body("use l0 i0 3 use l0 i0 4 use l0 i0 5 return l0")
        adder = with_body("put b0 0 + get b0 0 l0 return get b0 0", buffers=[[100]])
        answers = [event[-1] for event in process_of(PAIR, [caller, adder]).go(MANY, MANY) if event[0] != "call"]
        self.assertEqual(answers, [103, 107, 112, 112])

    def test_each_run_has_its_own_buffers(self):
        component = read_component(with_body("put b0 0 + get b0 0 1 return get b0 0", buffers=[[5]]), 0)
        for _ in range(2):
            process = Process(Interface([(1, [])]), [component])
            self.assertEqual(process.go(MANY, MANY), [("end", 6)])
        self.assertEqual(component.buffers, ((5,),))


class StatementTest(ProcessTestCase):
    def test_set(self):
        self.assert_body("set l3 5 return l3", 5, 2)
        self.assert_body("set l0 5 set l1 + l0 2 set l0 9 return + * 100 l0 l1", 907, 4)

    def test_return(self):
        self.assert_body("return 5", 5, 1)
        self.assert_body("return 5 return 6", 5, 1)
        self.assert_body("if 1 while 1 return 7 end end return 6", 7, 3)

    def test_a_procedure_without_return(self):
        self.assert_body("", 0, 1)
        self.assert_body("set l0 5", 0, 2)
        self.assert_body("if 0 return 5 end", 0, 2)
        self.assert_body("set l0 3 call l0 p1 9 return + l0 1", 1, 5, more=["procedure 1 set l0 4 end"])

    def test_if(self):
        for test, chosen in ((0, 20), (1, 10), (2, 10), (65535, 10)):
            self.assert_body(f"set l1 {test} if l1 return 10 else return 20 end", chosen, 3)
            self.assert_body(f"if {test} set l0 10 else set l0 20 end return l0", chosen, 3)
        self.assert_body("if 0 set l0 10 end return l0", 0, 2)
        self.assert_body("if 0 else set l0 20 end return l0", 20, 3)
        self.assert_body("if 1 else set l0 20 end return l0", 0, 2)
        self.assert_body("if 1 end return 3", 3, 2)
        self.assert_body("if 0 end return 3", 3, 2)

    def test_if_within_if(self):
        body = "if {} if {} return 11 else return 12 end else if {} return 21 else return 22 end end"
        for tests, answer in (((1, 1, 0), 11), ((1, 0, 1), 12), ((0, 0, 1), 21), ((0, 1, 0), 22)):
            self.assert_body(body.format(*tests), answer, 3)

    def test_the_statements_behind_a_block(self):
        self.assert_body("if 1 if 1 if 1 end end end return 4", 4, 4)
        self.assert_body("if 1 if 1 set l0 1 end set l0 + l0 2 end return l0", 3, 5)
        self.assert_body("while - 1 l0 if 1 set l0 1 end set l1 7 end return l1", 7, 6)

    def test_while(self):
        self.assert_body("while 0 return 9 end return 3", 3, 2)
        self.assert_body("set l0 3 while l0 set l0 - l0 1 end return 4", 4, 1 + 3 * 2 + 1 + 1)
        self.assert_body("set l0 5 while < 2 l0 set l0 - l0 1 set l1 + l1 l0 end return l1", 9, 1 + 3 * 3 + 1 + 1)
        self.assert_body("while 65535 return 2 end", 2, 2)

    def test_while_within_while(self):
        body = "set l0 3 while l0 set l1 2 while l1 set l1 - l1 1 set l2 + l2 1 end set l0 - l0 1 end return l2"
        self.assert_body(body, 6, 1 + 3 * (1 + 1 + 2 * 3 + 1 + 1) + 1 + 1)

    def test_while_that_does_not_end(self):
        process = alone("while 1 end")
        self.assertEqual(process.go(1000, 1), [])
        self.assertEqual(fields(process), ([], "running", None, 1000))

    def test_call(self):
        more = ["procedure 1 return + l0 1 end", "procedure 2 set l1 * l0 2 return l1 end"]
        self.assert_body("call l0 p1 5 return l0", 6, 3, more=more)
        self.assert_body("call l3 p2 5 return + l3 l0", 10, 4, more=more)
        self.assert_body("call l0 p1 5 call l1 p2 l0 return + * 100 l0 l1", 612, 6, more=more)

    def test_call_puts_the_answer_into_the_local(self):
        more = ["procedure 1 return 8 end"]
        self.assert_body("set l0 5 call l0 p1 l0 return l0", 8, 4, more=more)
        self.assert_body("set l0 5 call l1 p1 l0 return + * 10 l0 l1", 58, 4, more=more)

    def test_call_in_blocks(self):
        body = "while < l0 3 call l0 p1 l0 if = l0 2 call l1 p1 10 end end return + * l1 10 l0"
        self.assert_body(body, 113, 3 * 4 + 2 + 2, more=["procedure 1 return + l0 1 end"])

    def test_call_of_itself(self):
        self.assert_body("if = l0 0 call l0 p0 7 return + l0 1 end return * l0 3", 22, 5)

    def test_use_takes_the_imports_in_their_order(self):
        rows = [(1, [(2, 1), (1, 0), (2, 0)]), (1, []), (2, [])]
        caller = with_body("use l1 i0 1 use l2 i1 2 use l3 i2 3 return + l1 + l2 l3", room=6)
        one = with_body("return + 100 l0")
        two = with_body("return + 200 l0", more=["procedure 1 return + 300 l0 end"])
        trace = [
            ("call", 0, 2, 1, 1), ("return", 2, 0, 301),
            ("call", 0, 1, 0, 2), ("return", 1, 0, 102),
            ("call", 0, 2, 0, 3), ("return", 2, 0, 203),
            ("end", 606),
        ]
        self.assert_run(process_of(rows, [caller, one, two]), trace, "ended", None, 7)


class ExpressionTest(ProcessTestCase):
    def test_numbers_and_locals(self):
        for number in (0, 1, 65535):
            self.assert_body(f"return {number}", number, 1)
            self.assert_body(f"set l2 {number} return l2", number, 2)

    def test_each_operator(self):
        for sign in OPERATORS:
            for left, right in ((0, 0), (7, 0), (0, 7), (7, 3), (3, 7), (7, 7), (65535, 2), (300, 300)):
                self.assert_body(f"return {sign} {left} {right}", combine(sign, left, right), 1)

    def test_values_are_machine_words(self):
        self.assert_body("return + 65535 1", 0, 1)
        self.assert_body("return - 0 1", 65535, 1)
        self.assert_body("return * 256 256", 0, 1)
        self.assert_body("return / 7 0", 0, 1)
        self.assert_body("return mod 7 0", 0, 1)

    def test_expressions_within_each_other(self):
        self.assert_body("return - * 3 + 4 5 / 9 2", 23, 1)
        self.assert_body("return get b0 get b0 get b0 0", 5, 1, buffers=[[1, 2, 5]])
        self.assert_body("return + get b0 - 3 1 * get b0 0 100", 105, 1, buffers=[[1, 2, 5]])


class UndefinedTest(ProcessTestCase):
    def test_get_just_below_the_size_and_at_the_size(self):
        for size in (1, 2, 5, 1000):
            buffers = [[9] * 1000, [at % 7 for at in range(size)], [8] * 1000]
            self.assert_body(f"return get b1 {size - 1}", (size - 1) % 7, 1, buffers=buffers)
            for index in (size, size + 1, 65535):
                self.assert_undefined(f"return get b1 {index}", 1, buffers=buffers)

    def test_put_just_below_the_size_and_at_the_size(self):
        for size in (1, 2, 5, 1000):
            buffers = [[9] * 1000, [0] * size, [8] * 1000]
            self.assert_body(f"put b1 {size - 1} 6 return get b1 {size - 1}", 6, 2, buffers=buffers)
            for index in (size, size + 1, 65535):
                self.assert_undefined(f"put b1 {index} 6 return 1", 1, buffers=buffers)

    def test_each_place_of_a_statement(self):
        for body in (
            "set l1 {}", "put b0 {} 0", "put b0 0 {}", "call l0 p0 {}", "if {} end", "if {} return 1 else return 2 end",
            "while {} end", "return {}",
        ):
            for expression in ("get b0 2", "get b0 get b0 2", "+ 1 get b0 2", "+ get b0 2 1", "get b0 + 1 get b0 2"):
                self.assert_undefined(body.format(expression), 1, buffers=[[0, 1]])
                self.assert_undefined("set l3 1 " + body.format(expression), 2, buffers=[[0, 1]])

    def test_the_index_of_put_is_undefined(self):
        self.assert_undefined("put b0 get b0 1 0", 1, buffers=[[0]])
        self.assert_undefined("put b0 1 get b0 1", 1, buffers=[[0]])

    def test_both_parts_of_an_operator_are_evaluated(self):
        for sign in OPERATORS:
            for number in (0, 1, 65535):
                self.assert_undefined(f"return {sign} {number} get b0 1", 1, buffers=[[0]])
                self.assert_undefined(f"return {sign} get b0 1 {number}", 1, buffers=[[0]])

    def test_the_test_of_a_while_at_a_later_time(self):
        body = "while = 0 get b0 l0 set l0 + l0 1 end"
        self.assert_undefined(body, 3 * 2 + 1, buffers=[[0, 0, 0]])

    def test_what_does_not_run_is_not_undefined(self):
        self.assert_body("if 0 set l0 get b0 1 end while 0 put b0 1 0 end return 3", 3, 3, buffers=[[0]])
        self.assert_body("return 3 set l0 get b0 1", 3, 1, buffers=[[0]])
        self.assert_body("if 1 else put b0 9 9 end return 3", 3, 2, buffers=[[0]])

    def test_the_size_is_that_of_the_own_buffer(self):
        caller = with_body("use l0 i0 2 return l0", buffers=[[1, 2, 3]])
        other = with_body("return get b0 l0", buffers=[[1, 2]])
        self.assert_run(process_of(PAIR, [caller, other]), [("call", 0, 1, 0, 2)], "undefined", 1, 2)
        other = with_body("return get b0 l0", buffers=[[1, 2, 4]])
        self.assertEqual(process_of(PAIR, [caller, other]).go(MANY, MANY)[-1], ("end", 4))

    def test_an_undefined_word_is_not_passed(self):
        caller = with_body("use l0 i0 get b0 1", buffers=[[0]])
        self.assert_run(process_of(PAIR, [caller, with_body("return 1")]), [], "undefined", 0, 1)

    def test_an_undefined_answer_is_not_returned(self):
        process = process_of(PAIR, [with_body("use l0 i0 3"), with_body("return get b0 l0", buffers=[[0]])])
        self.assert_run(process, [("call", 0, 1, 0, 3)], "undefined", 1, 2)
        self.assert_undefined("return get b0 1", 1, buffers=[[0]])

    def test_the_buffer_stays_when_a_put_is_undefined(self):
        process = alone("put b0 1 9", buffers=[[5]])
        process.go(MANY, MANY)
        self.assertEqual(process.buffers, [[[5]]])

    def test_blamed_is_the_component_whose_procedure_runs(self):
        wrong = "set l1 get b0 9"
        rows = [(2, [(1, 0)]), (1, [(2, 0), (0, 1)]), (1, [])]
        calls = [("call", 0, 1, 0, 1), ("call", 1, 2, 0, 2)]
        parts = ["use l0 i0 1", "use l0 i0 2", "return 3"]
        cases = (
            (0, [wrong + " " + parts[0], parts[1], parts[2]], [], 1),
            (1, [parts[0], wrong + " " + parts[1], parts[2]], calls[:1], 2),
            (2, [parts[0], parts[1], wrong], calls, 3),
            (1, [parts[0], parts[1] + " " + wrong, parts[2]], calls + [("return", 2, 1, 3)], 4),
            (
                0, [parts[0] + " " + wrong, parts[1], parts[2]],
                calls + [("return", 2, 1, 3), ("return", 1, 0, 0)], 5,
            ),
        )
        for blamed, bodies, trace, steps in cases:
            texts = [with_body(body, buffers=[[0]], more=["procedure 1 end"]) for body in bodies]
            self.assert_run(process_of(rows, texts), trace, "undefined", blamed, steps)

    def test_blamed_in_an_own_procedure_and_in_a_call_back(self):
        rows = [(2, [(1, 0)]), (1, [(0, 1)])]
        first = with_body("use l0 i0 1", buffers=[[0]], more=["procedure 1 return get b0 l0 end"])
        back = [("call", 0, 1, 0, 1), ("call", 1, 0, 1, 1)]
        self.assert_run(process_of(rows, [first, with_body("use l0 i0 l0")]), back, "undefined", 0, 3)
        own = with_body("call l0 p1 l0", buffers=[[0]], more=["procedure 1 put b0 l0 1 end"])
        self.assert_run(process_of(rows, [first, own]), back[:1], "undefined", 1, 3)


class StepTest(ProcessTestCase):
    def test_each_step_counts(self):
        body = "set l0 2 while l0 if 1 put b0 0 l0 end call l1 p1 0 set l0 - l0 1 end return 5"
        process = alone(body, buffers=[[0]], more=["procedure 1 set l0 1 end"])
        # A `set`, twice the seven steps of the loop, its last test and the `return`.
        for steps in range(1, 1 + 2 * 7 + 2):
            process.step()
            self.assertEqual(fields(process), ([], "running", None, steps))
        process.step()
        self.assertEqual(fields(process), ([("end", 5)], "ended", None, 17))

    def test_the_step_at_which_the_run_is_over_counts(self):
        for body, state, steps in (
            ("return 1", "ended", 1), ("", "ended", 1), ("set l0 1", "ended", 2), ("call l0 p1 0", "full", 1),
            ("set l0 1 call l0 p1 0", "full", 2), ("put b0 1 0", "undefined", 1), ("if get b0 1 end", "undefined", 1),
        ):
            process = alone(body, room=6, buffers=[[0]], more=["procedure 1 end"])
            for at in range(steps):
                self.assertEqual((process.state, process.steps), ("running", at))
                process.step()
            self.assertEqual((process.state, process.steps), (state, steps))

    def test_go_does_nothing_when_the_run_is_over(self):
        for body in ("return 1", "put b0 1 0", "call l0 p0 0"):
            process = alone(body, room=6, buffers=[[0]])
            process.go(MANY, MANY)
            before = copy.deepcopy(fields(process))
            self.assertEqual(process.go(MANY, MANY), before[0])
            self.assertEqual(fields(process), before)

    def test_go_with_a_number_of_steps(self):
        for steps in range(8):
            process = alone("set l0 1 set l0 2 set l0 3 return 4")
            self.assertEqual(process.go(steps, MANY), [("end", 4)] if steps >= 4 else [])
            self.assertEqual(process.steps, min(steps, 4))
            self.assertEqual(process.state, "running" if steps < 4 else "ended")

    def test_go_with_a_number_of_events(self):
        caller = with_body("set l1 1 use l0 i0 7 set l1 2 return l0")
        doubler = with_body("set l0 * l0 2 return l0")
        whole = [("call", 0, 1, 0, 7), ("return", 1, 0, 14), ("end", 14)]
        for events, steps in ((0, 0), (1, 2), (2, 4), (3, 6), (4, 6), (100, 6)):
            process = process_of(PAIR, [caller, doubler])
            self.assertEqual(process.go(MANY, events), whole[:events])
            self.assertEqual(process.steps, steps)
            self.assertEqual(process.state, "ended" if events >= 3 else "running")
            # The trace has its events already: nothing more is done.
            self.assertEqual(process.go(MANY, events), whole[:events])
            self.assertEqual(process.steps, steps)
            self.assertEqual(process.go(MANY, 0), whole[:events])
            self.assertEqual(process.go(0, MANY), whole[:events])
            self.assertEqual(process.steps, steps)

    def test_go_in_parts_and_step_by_step(self):
        texts = [
            with_body("set l1 3 while l1 use l0 i0 l1 set l1 - l1 1 end return l0", buffers=[[0]]),
            with_body("if < l0 2 return get b0 + l0 5 end return * l0 2", buffers=[[0]]),
        ]
        stepped = process_of(PAIR, texts)
        for steps in range(40):
            whole = process_of(PAIR, texts)
            trace = whole.go(steps, MANY)
            parts = process_of(PAIR, texts)
            for part in (steps // 3, 0, steps // 2, steps - steps // 3 - steps // 2):
                parts.go(part, MANY)
            self.assertEqual(fields(parts), fields(whole))
            self.assertEqual(fields(stepped), fields(whole))
            self.assertEqual(trace, whole.trace)
            if stepped.state == "running":
                stepped.step()
        self.assertEqual((stepped.state, stepped.blamed), ("undefined", 1))

    def test_go_returns_a_new_list(self):
        process = process_of(PAIR, [with_body("use l0 i0 7"), with_body("return 1")])
        first = process.go(1, MANY)
        self.assertEqual(first, [("call", 0, 1, 0, 7)])
        self.assertIsNot(first, process.trace)
        second = process.go(0, 0)
        self.assertIsNot(first, second)
        process.go(MANY, MANY)
        self.assertEqual(first, [("call", 0, 1, 0, 7)])
        first.append("more")
        second.clear()
        self.assertEqual(process.trace, [("call", 0, 1, 0, 7), ("return", 1, 0, 1), ("end", 0)])


class EventsTest(ProcessTestCase):
    def test_the_example_of_the_document(self):
        caller = read_component("room 5 procedures 1 procedure 1 use l0 i0 7 return l0 end", 1)
        doubler = read_component("room 3 procedures 1 procedure 1 return * l0 2 end", 0)
        process = Process(Interface([(1, [(1, 0)]), (1, [])]), [caller, doubler])
        self.assertEqual(process.go(100, 100), [("call", 0, 1, 0, 7), ("return", 1, 0, 14), ("end", 14)])

    def test_own_calls_make_no_events(self):
        self.assert_body("call l0 p1 1 call l0 p1 2 return l0", 2, 5, more=["procedure 1 return l0 end"])

    def test_own_calls_within_a_use_make_no_events(self):
        caller = with_body("call l0 p1 5 return l0", more=["procedure 1 use l0 i0 l0 return + l0 1 end"])
        other = with_body("call l0 p1 * l0 2 return + l0 3", more=["procedure 1 return + l0 100 end"])
        trace = [("call", 0, 1, 0, 5), ("return", 1, 0, 113), ("end", 114)]
        self.assert_run(process_of(PAIR, [caller, other]), trace, "ended", None, 7)

    def test_a_procedure_that_ends_without_return_answers_0(self):
        process = process_of(PAIR, [with_body("set l0 4 use l0 i0 7 return + l0 1"), with_body("")])
        trace = [("call", 0, 1, 0, 7), ("return", 1, 0, 0), ("end", 1)]
        self.assert_run(process, trace, "ended", None, 4)

    def test_an_event_is_made_at_its_step(self):
        process = process_of(PAIR, [with_body("set l0 1 use l0 i0 7"), with_body("set l0 2 return 3")])
        lengths = []
        while process.state == "running":
            process.step()
            lengths.append(len(process.trace))
        self.assertEqual(lengths, [0, 1, 1, 2, 3])

    def test_the_procedure_of_a_call_is_that_of_the_other_component(self):
        rows = [(1, [(1, 2), (1, 0)]), (3, [])]
        other = with_body("return 10", more=["procedure 1 return 11 end", "procedure 1 return 12 end"])
        trace = [("call", 0, 1, 2, 5), ("return", 1, 0, 12), ("call", 0, 1, 0, 6), ("return", 1, 0, 10), ("end", 22)]
        process = process_of(rows, [with_body("use l0 i0 5 use l1 i1 6 return + l0 l1"), other])
        self.assert_run(process, trace, "ended", None, 5)

    def test_a_procedure_that_is_not_exported_may_be_called_by_its_own(self):
        other = with_body("call l0 p2 l0 return l0", more=["procedure 1 end", "procedure 1 return + l0 4 end"])
        trace = [("call", 0, 1, 0, 5), ("return", 1, 0, 9), ("end", 9)]
        self.assert_run(process_of(PAIR, [with_body("use l0 i0 5 return l0"), other]), trace, "ended", None, 5)

    def test_calls_through_three_components_and_back(self):
        rows = [(2, [(1, 0)]), (1, [(2, 0)]), (1, [(0, 1), (1, 0)])]
        texts = [
            with_body("use l0 i0 1 return l0", more=["procedure 1 return + l0 10 end"]),
            with_body("if < 50 l0 return 70 end use l0 i0 + l0 1 return + l0 1"),
            with_body("use l1 i0 + l0 1 use l2 i1 60 return + l1 l2"),
        ]
        trace = [
            ("call", 0, 1, 0, 1), ("call", 1, 2, 0, 2), ("call", 2, 0, 1, 3), ("return", 0, 2, 13),
            ("call", 2, 1, 0, 60), ("return", 1, 2, 70), ("return", 2, 1, 83), ("return", 1, 0, 84), ("end", 84),
        ]
        self.assert_run(process_of(rows, texts), trace, "ended", None, 11)

    def test_a_call_whose_procedure_has_no_room(self):
        process = process_of(PAIR, [with_body("set l0 1 use l0 i0 7"), with_body("return 3", room=5)])
        self.assert_run(process, [("call", 0, 1, 0, 7)], "full", None, 2)

    def test_components_that_use_each_other_until_the_room_is_full(self):
        rows = [(1, [(1, 0)]), (1, [(0, 0)])]
        texts = [with_body("use l0 i0 + l0 1", locals_=1, room=9), with_body("use l0 i0 + l0 1", locals_=1, room=100)]
        trace = [("call", at % 2, 1 - at % 2, 0, at + 1) for at in range(6)]
        self.assert_run(process_of(rows, texts), trace, "full", None, 6)

    def test_eight_components(self):
        rows = [(1, [(at + 1, 0)]) for at in range(7)] + [(1, [])]
        texts = [with_body("use l0 i0 + l0 1 return + l0 1", locals_=1, room=3)] * 7
        process = process_of(rows, texts + [with_body("return 100")])
        calls = [("call", at, at + 1, 0, at + 1) for at in range(7)]
        returns = [("return", 7 - at, 6 - at, 100 + at) for at in range(7)]
        self.assert_run(process, calls + returns + [("end", 107)], "ended", None, 15)


class ArgumentsTest(ProcessTestCase):
    def test_what_is_passed_stays_as_it_was(self):
        rows = [(1, [(1, 0)]), (1, [])]
        interface = Interface(rows)
        buffers = [[1, 2]]
        caller = Component(9, buffers, [(1, (("put", 0, ("number", 1), ("number", 9)), ("use", 0, 0, ("number", 7))))])
        components = [caller, read_component(with_body("put b0 0 4", buffers=[[3]]), 0)]
        before = copy.deepcopy(components)
        passed = list(components)
        process = Process(interface, components)
        process.go(MANY, MANY)
        self.assertEqual(process.state, "ended")
        self.assertEqual(components, before)
        self.assertTrue(all([one is other for one, other in zip(components, passed, strict=True)]))
        self.assertEqual((interface, buffers), (Interface(rows), [[1, 2]]))

    def test_a_list_that_changes_later_does_not_change_the_run(self):
        components = [read_component(with_body("use l0 i0 7 return l0"), 1), read_component(with_body("return 5"), 0)]
        process = Process(Interface(PAIR), components)
        components.clear()
        self.assertEqual(process.go(MANY, MANY)[-1], ("end", 5))

    def test_limits_are_not_looked_at(self):
        block = (("set", 16, ("get", 0, ("number", 0))), ("return", ("local", 16)))
        component = Component(30000, [[70000]], [(17, block)])
        process = Process(Interface([(1, [])]), [component])
        process.go(MANY, MANY)
        self.assertEqual((process.state, process.steps), ("ended", 2))


if __name__ == "__main__":
    unittest.main()
