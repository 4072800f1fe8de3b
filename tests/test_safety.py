"""Safety: points [28], [29] and [30]."""

import copy
import unittest

from blameless.interface import Interface
from blameless.language import Component, read_component
from blameless.process import Process
from blameless.safety import bound, fold_component, surely_defined
from blameless.words import OPERATORS
from blameless.writer import component_text
from tests.helpers import Chance, Lively, with_body

WORDS = (0, 1, 2, 3, 7, 9, 10, 255, 256, 257, 300, 32767, 32768, 65534, 65535)
# Each index of FIRST is at most 9, that of SECOND at most 1, that of THIRD 0.
BUFFERS = [list(range(10)), [5, 6], [7]]


def expression_of(words):
    return read_component(with_body(f"return {words}", buffers=BUFFERS), 1).procedures[0][1][0][1]


class BoundTest(unittest.TestCase):
    def assert_bound(self, words, expected):
        with self.subTest(words=words):
            self.assertEqual(bound(expression_of(words)), expected)

    def test_numbers(self):
        for word in WORDS:
            self.assert_bound(str(word), word)

    def test_locals_and_get(self):
        self.assert_bound("l0", 65535)
        self.assert_bound("l3", 65535)
        self.assert_bound("get b0 0", 65535)
        self.assert_bound("get b2 l1", 65535)

    def test_comparisons(self):
        for sign in ("<", "="):
            for words in ("0 0", "l0 l1", "65535 65535", "0 l1", "get b0 0 7", "1 0"):
                self.assert_bound(f"{sign} {words}", 1)

    def test_each_operator_on_numbers(self):
        for left in WORDS:
            for right in WORDS:
                self.assert_bound(f"+ {left} {right}", min(left + right, 65535))
                self.assert_bound(f"* {left} {right}", min(left * right, 65535))
                self.assert_bound(f"/ {left} {right}", left)
                self.assert_bound(f"- {left} {right}", 65535 if right else left)
                self.assert_bound(f"mod {left} {right}", 0 if right == 0 else min(left, right - 1))

    def test_known_bounds(self):
        rows = [
            ("+ 2 3", 5),
            ("+ 65535 0", 65535),
            ("+ 65535 1", 65535),
            ("+ l0 l1", 65535),
            ("* 3 5", 15),
            ("* l0 0", 0),
            ("* 0 l0", 0),
            ("* 256 256", 65535),
            ("* 255 257", 65535),
            ("* 255 256", 65280),
            ("- 5 0", 5),
            ("- 0 0", 0),
            ("- 5 1", 65535),
            ("- l0 0", 65535),
            ("- 0 5", 65535),
            ("/ 7 2", 7),
            ("/ 7 0", 7),
            ("/ l0 2", 65535),
            ("/ 7 l0", 7),
            ("mod l0 10", 9),
            ("mod l0 1", 0),
            ("mod l0 0", 0),
            ("mod 5 0", 0),
            ("mod 5 10", 5),
            ("mod 5 5", 4),
            ("mod 5 l0", 5),
            ("mod 65535 l0", 65534),
            ("mod l0 l1", 65534),
            ("mod 0 l0", 0),
        ]
        for words, expected in rows:
            self.assert_bound(words, expected)

    def test_expressions_within_each_other(self):
        rows = [
            ("+ mod l0 5 mod l1 6", 9),
            ("* mod l0 5 mod l1 6", 20),
            ("+ < l0 l1 = l0 l1", 2),
            ("mod l0 + 3 4", 6),
            ("mod + 1 2 mod l0 9", 3),
            ("mod 9 mod l0 1", 0),
            ("- mod l0 5 * 0 l1", 4),
            ("- mod l0 5 / 0 l1", 4),
            ("- mod l0 5 mod l1 1", 4),
            ("- 4 < 1 0", 65535),
            ("/ + 3 4 0", 7),
            ("+ + + 1 2 3 4", 10),
            ("+ 65000 * 100 < l0 1", 65100),
            ("+ 65000 * 600 < l0 1", 65535),
            ("get b0 mod l0 3", 65535),
            ("mod get b0 3 3", 2),
        ]
        for words, expected in rows:
            self.assert_bound(words, expected)

    def test_no_value_is_above_it(self):
        for seed in range(400):
            chance = Chance(seed)
            expression = chance.expression(4, (2, 1))
            block = [("set", number, ("number", chance.words(1)[0])) for number in range(2)]
            component = Component(9, [chance.words(2)], [(2, block + [("return", expression)])])
            process = Process(Interface([(1, [])]), [component])
            for _, word in process.go(9, 9):
                self.assertLessEqual(word, bound(expression))


class SurelyDefinedTest(unittest.TestCase):
    # Bodies with one index, which is written {}, in each place where an expression may stand, for buffer 0.
    PLACES = (
        "set l0 get b0 {}",
        "put b1 0 get b0 {}",
        "put b0 {} 3",
        "put b1 mod get b0 {} 2 3",
        "call l0 p0 get b0 {}",
        "use l0 i0 get b0 {}",
        "if get b0 {} end",
        "while get b0 {} end",
        "return get b0 {}",
        "return + 1 get b0 {}",
        "return + get b0 {} 1",
        "return < l0 get b0 {}",
        "put b1 < 1 get b0 {} 3",
        "if 1 set l0 get b0 {} end",
        "if 1 put b0 {} 1 end",
        "if 1 else set l0 get b0 {} end",
        "if 1 set l0 1 else put b0 {} 2 end",
        "if 0 else if 1 put b0 {} 2 end end",
        "while 0 set l0 get b0 {} end",
        "while 0 put b0 {} 1 end",
        "while 1 if 1 while 1 if get b0 {} end end end end",
        "return 1 put b0 {} 1",
        "return 1 return get b0 {}",
        "set l0 1 put b0 0 1 put b1 1 1 put b2 0 1 put b0 {} 1",
    )

    def assert_sure(self, body, expected, **more):
        with self.subTest(body=body):
            self.assertIs(surely_defined(read_component(with_body(body, **more), 1)), expected)

    def test_each_place(self):
        for body in self.PLACES:
            for index in ("0", "9", "mod l1 10", "+ 4 5", "< l0 l1"):
                self.assert_sure(body.format(index), True, buffers=BUFFERS)
            for index in ("10", "65535", "l1", "mod l1 11", "+ 4 6", "* 5 2"):
                self.assert_sure(body.format(index), False, buffers=BUFFERS)

    def test_the_size_of_each_buffer(self):
        for buffer, words in enumerate(BUFFERS):
            for index in range(12):
                self.assert_sure(f"return get b{buffer} {index}", index < len(words), buffers=BUFFERS)
                self.assert_sure(f"put b{buffer} {index} 1", index < len(words), buffers=BUFFERS)
                self.assert_sure(f"return get b{buffer} mod l0 {index}", index <= len(words), buffers=BUFFERS)

    def test_the_largest_buffer(self):
        for index in (998, 999, 1000, 1001):
            self.assert_sure(f"return get b0 {index}", index < 1000, buffers=[[0] * 1000])

    def test_an_index_within_an_index(self):
        self.assert_sure("return get b0 get b1 0", False, buffers=BUFFERS)
        self.assert_sure("return get b0 mod get b1 0 10", True, buffers=BUFFERS)
        self.assert_sure("return get b0 mod get b1 2 10", False, buffers=BUFFERS)
        self.assert_sure("return get b0 mod get b1 0 11", False, buffers=BUFFERS)
        self.assert_sure("put b0 * 0 get b1 2 1", False, buffers=BUFFERS)
        self.assert_sure("put b0 * 0 get b1 1 1", True, buffers=BUFFERS)

    def test_components_without_buffers(self):
        for body in ("", "return + l0 1", "use l0 i0 l1 if l0 while 1 call l0 p0 * l0 l1 end else return 7 end"):
            self.assert_sure(body, True)

    def test_each_procedure(self):
        for first, second in [("return 1", "return get b2 1"), ("return get b2 1", "return 1")]:
            more = ["procedure 1 end", f"procedure 1 {second} end"]
            self.assert_sure(first, False, buffers=BUFFERS, more=more)
        self.assert_sure("return get b2 0", True, buffers=BUFFERS, more=["procedure 1 put b2 0 1 end"])

    def test_it_is_never_undefined(self):
        states = []
        for seed in range(300):
            lively = Lively(seed, cares=(1, 0.9))
            interface, components = lively.program()
            process = Process(interface, components)
            process.go(400, 50)
            states.append(process.state)
            if process.blamed is not None:
                self.assertIs(surely_defined(components[process.blamed]), False)
        self.assertIn("undefined", states)


class FoldTest(unittest.TestCase):
    def folded(self, words):
        text = component_text(fold_component(read_component(with_body(f"return {words}", buffers=BUFFERS), 1)))
        return text[text.index(" return ") + len(" return ") : -len(" end")]

    def assert_folded(self, words, expected):
        with self.subTest(words=words):
            self.assertEqual(self.folded(words), expected)

    def assert_stays(self, *rows):
        for words in rows:
            self.assert_folded(words, words)

    def test_numbers_and_locals(self):
        self.assert_stays("0", "1", "65535", "l0", "l3")

    def test_both_parts_are_numbers(self):
        rows = [("+ 65535 2", "1"), ("- 2 5", "65533"), ("* 256 257", "256"), ("/ 7 2", "3"), ("mod 7 4", "3")]
        rows.extend([("< 1 2", "1"), ("< 2 1", "0"), ("= 3 3", "1"), ("= 3 4", "0"), ("/ 7 0", "0"), ("mod 7 0", "0")])
        # Other rules would apply as well.
        rows.extend([("+ 0 0", "0"), ("* 0 1", "0"), ("* 1 0", "0"), ("/ 0 1", "0"), ("- 5 5", "0"), ("- 0 0", "0")])
        rows.extend([("* 5 1", "5"), ("= 0 0", "1"), ("mod 0 0", "0"), ("+ 5 0", "5"), ("* 1 1", "1")])
        for words, expected in rows:
            self.assert_folded(words, expected)

    def test_a_sum_and_a_difference_with_0(self):
        for part in ("l1", "get b0 l1", "get b0 65535", "* l1 l2", "/ 5 l1"):
            self.assert_folded(f"+ {part} 0", part)
            self.assert_folded(f"- {part} 0", part)
            self.assert_folded(f"+ 0 {part}", part)
            self.assert_stays(f"- 0 {part}")

    def test_0_beside_other_operators(self):
        for part in ("l1", "get b0 0", "+ l1 l2"):
            self.assert_stays(f"/ {part} 0", f"/ 0 {part}", f"mod {part} 0", f"mod 0 {part}")
            self.assert_stays(f"< {part} 0", f"< 0 {part}", f"= {part} 0", f"= 0 {part}")

    def test_a_product_and_a_quotient_with_1(self):
        for part in ("l1", "get b0 l1", "get b0 65535", "+ l1 l2", "- 5 l1"):
            self.assert_folded(f"* {part} 1", part)
            self.assert_folded(f"/ {part} 1", part)
            self.assert_folded(f"* 1 {part}", part)
            self.assert_stays(f"/ 1 {part}")

    def test_1_beside_other_operators(self):
        for part in ("l1", "get b0 0", "+ l1 l2"):
            for sign in ("+", "-", "mod", "<", "="):
                self.assert_stays(f"{sign} {part} 1", f"{sign} 1 {part}")

    def test_other_numbers(self):
        for number in (2, 65535):
            for sign in OPERATORS:
                self.assert_stays(f"{sign} l1 {number}", f"{sign} {number} l1")

    def test_a_product_with_0(self):
        for part in ("l1", "+ l1 l2", "get b0 9", "get b0 mod l1 10", "get b1 < l1 l2", "/ l1 get b2 0"):
            self.assert_folded(f"* {part} 0", "0")
            self.assert_folded(f"* 0 {part}", "0")

    def test_a_product_with_0_that_may_be_undefined(self):
        parts = ["get b0 10", "get b0 l1", "+ l1 get b0 l2", "get b0 mod l1 11", "/ get b1 2 l1", "get b0 get b1 1"]
        for part in parts:
            self.assert_stays(f"* {part} 0", f"* 0 {part}")
        # The index of the inner one is too large, that of the outer one is not.
        inner = ("mod", ("get", 1, ("number", 2)), ("number", 10))
        block = (("return", ("*", ("number", 0), ("get", 0, inner))),)
        component = Component(9, BUFFERS, [(1, block)])
        self.assertEqual(fold_component(component), component)

    def test_equal_parts(self):
        for part in ("l1", "+ l1 l2", "get b0 9", "get b0 mod l1 10"):
            for sign, expected in [("-", "0"), ("<", "0"), ("mod", "0"), ("=", "1")]:
                self.assert_folded(f"{sign} {part} {part}", expected)
            self.assert_stays(f"+ {part} {part}", f"* {part} {part}", f"/ {part} {part}")

    def test_equal_parts_that_may_be_undefined(self):
        for part in ("get b0 l1", "get b0 10", "+ l1 get b0 l2", "get b0 get b1 0", "+ get b1 2 get b1 1"):
            for sign in OPERATORS:
                self.assert_stays(f"{sign} {part} {part}")

    def test_parts_that_are_not_equal(self):
        for sign in ("-", "<", "mod", "="):
            self.assert_stays(f"{sign} l1 l2", f"{sign} l0 get b0 0")
            self.assert_stays(f"{sign} + l1 l2 + l2 l1", f"{sign} + l1 2 - l1 2")
            self.assert_stays(f"{sign} get b0 0 get b0 1", f"{sign} get b0 0 get b1 0")

    def test_the_index_of_get(self):
        self.assert_folded("get b0 + 1 2", "get b0 3")
        self.assert_folded("get b0 - l1 l1", "get b0 0")
        self.assert_folded("get b0 get b1 * l1 0", "get b0 get b1 0")
        self.assert_folded("get b0 + 9 9", "get b0 18")
        self.assert_stays("get b0 0", "get b0 l1", "get b0 get b1 l1", "get b0 9")

    def test_parts_first(self):
        rows = [
            ("+ + 1 2 + 3 4", "10"),
            ("+ l1 - 3 3", "l1"),
            ("* + l1 0 - 2 1", "l1"),
            ("- + l1 0 l1", "0"),
            ("= * l1 1 + 0 l1", "1"),
            ("* - l1 l1 get b0 l2", "* 0 get b0 l2"),
            ("* - l1 l1 get b0 5", "0"),
            ("+ - l1 l1 get b0 l2", "get b0 l2"),
            ("* 0 get b0 - l2 l2", "0"),
            ("- get b0 * l1 0 get b0 0", "0"),
            ("mod + 2 3 - 9 0", "5"),
            ("* / 9 3 + l1 0", "* 3 l1"),
            ("+ + l1 1 1", "+ + l1 1 1"),
            ("- - l1 0 - l1 0", "0"),
            ("< + 1 1 * 3 get b0 0", "< 2 * 3 get b0 0"),
            ("* * l1 0 * l2 1", "0"),
        ]
        for words, expected in rows:
            self.assert_folded(words, expected)

    def test_one_rule_is_used_once(self):
        # What a rule gives is not looked at again: its parts are folded already.
        self.assert_folded("+ + l1 l1 0", "+ l1 l1")
        self.assert_folded("/ * l1 l2 1", "* l1 l2")


class FoldComponentTest(unittest.TestCase):
    def assert_folded(self, body, expected, **more):
        component = read_component(with_body(body, buffers=BUFFERS, **more), 1)
        folded = fold_component(component)
        self.assertIsInstance(folded, Component)
        self.assertEqual(component_text(folded), with_body(expected, buffers=BUFFERS, **more))
        self.assertEqual(fold_component(folded), folded)

    def test_each_place(self):
        for body in ("set l1 {}", "put b0 {} {}", "call l1 p0 {}", "use l1 i0 {}", "return {}", "while {} end"):
            self.assert_folded(body.replace("{}", "+ 1 2"), body.replace("{}", "3"))
        self.assert_folded("if + 1 2 end", "if 3 end")
        self.assert_folded("if - l1 0 set l1 * 2 3 else put b1 - l0 l0 / 6 2 end", "if l1 set l1 6 else put b1 0 3 end")
        self.assert_folded("while = l1 l1 if + 0 l2 while < l1 l1 end end end", "while 1 if l2 while 0 end end end")
        self.assert_folded("if 0 else if 1 return + 1 1 end end", "if 0 else if 1 return 2 end end")

    def test_statements_stay(self):
        # Only expressions are folded: what is never run stays, too.
        for body in ("if 0 set l1 2 end", "while 0 end", "return 1 return 2", "set l1 l1", "if 1 else return 2 end"):
            self.assert_folded(body, body)

    def test_each_procedure(self):
        more = ["procedure 3 end", "procedure 16 return * l0 1 end"]
        component = read_component(with_body("set l1 + 1 2", more=more), 0)
        expected = with_body("set l1 3", more=["procedure 3 end", "procedure 16 return l0 end"])
        self.assertEqual(component_text(fold_component(component)), expected)

    def test_the_conditions_take_the_buffers_of_the_component(self):
        for size in range(1, 9):
            component = read_component(with_body("return * 0 get b0 4", buffers=[[1] * size]), 0)
            expected = "return 0" if size > 4 else "return * 0 get b0 4"
            self.assertEqual(component_text(fold_component(component)), with_body(expected, buffers=[[1] * size]))

    def test_folding_again_changes_nothing(self):
        changed = 0
        for seed in range(300):
            chance = Chance(seed)
            component = chance.component(2)
            before = copy.deepcopy(vars(component))
            folded = fold_component(component)
            self.assertEqual(vars(component), before)
            self.assertEqual(fold_component(folded), folded)
            self.assertEqual((folded.room, folded.buffers), (component.room, component.buffers))
            self.assertEqual(read_component(component_text(folded), 2), folded)
            changed += folded != component
        self.assertGreater(changed, 100)

    def test_the_run_is_the_same_after_each_step(self):
        states = []
        for seed in range(400):
            lively = Lively(seed, cares=(0.3, 0.9))
            interface, components = lively.program()
            folded = [lively.random.choice([fold_component(part), fold_component(part), part]) for part in components]
            runs = [Process(interface, components), Process(interface, folded)]
            while runs[0].state == "running" and runs[0].steps < 300:
                for run in runs:
                    run.step()
                seen = [(run.trace, run.state, run.blamed) for run in runs]
                self.assertEqual(seen[0], seen[1])
            states.append(runs[0].state)
        for state in ("undefined", "ended", "full"):
            self.assertGreater(states.count(state), 20)

    def test_what_is_sure_stays_so(self):
        # The bound of a folded index is never greater.
        for seed in range(300):
            lively = Lively(seed, cares=(1,))
            component = lively.program()[1][0]
            if surely_defined(component):
                self.assertIs(surely_defined(fold_component(component)), True)


if __name__ == "__main__":
    unittest.main()
