"""Writing the texts of components: points [7] to [10]."""

import unittest

from blameless.language import Component, read_component
from blameless.words import OPERATORS
from blameless.writer import block_words, component_text
from tests.helpers import Chance
from tests.test_language import RICH_DATA, RICH_IMPORTS, RICH_TEXT

ONE, TWO = ("number", 1), ("number", 2)

# Blocks and their words.
BLOCKS = (
    ((), ""),
    ((("set", 3, ONE),), "set l3 1"),
    ((("put", 7, ONE, TWO),), "put b7 1 2"),
    ((("call", 15, 7, ONE),), "call l15 p7 1"),
    ((("use", 15, 7, ONE),), "use l15 i7 1"),
    ((("if", ONE, (), ()),), "if 1 end"),
    ((("if", ONE, (("return", TWO),), ()),), "if 1 return 2 end"),
    ((("if", ONE, (), (("return", TWO),)),), "if 1 else return 2 end"),
    ((("if", ONE, (("return", ONE),), (("return", TWO),)),), "if 1 return 1 else return 2 end"),
    ((("while", ONE, ()),), "while 1 end"),
    ((("while", ONE, (("return", TWO), ("return", ONE))),), "while 1 return 2 return 1 end"),
    ((("return", ("number", 65535)),), "return 65535"),
    ((("return", ("local", 15)),), "return l15"),
    ((("return", ("get", 7, ("local", 0))),), "return get b7 l0"),
    ((("set", 0, ONE), ("set", 1, TWO), ("return", ONE)), "set l0 1 set l1 2 return 1"),
    (
        (("if", ONE, (("while", TWO, (("if", ONE, (), (("set", 0, ONE),)),)),), ()), ("return", TWO)),
        "if 1 while 2 if 1 else set l0 1 end end end return 2",
    ),
)


class BlockWordsTest(unittest.TestCase):
    def test_each_statement(self):
        for block, text in BLOCKS:
            with self.subTest(text=text):
                words = block_words(block)
                self.assertIs(type(words), list)
                self.assertEqual(words, text.split(" ") if text else [])

    def test_each_operator(self):
        for sign in OPERATORS:
            block = (("return", (sign, (sign, ONE, TWO), ("get", 0, (sign, TWO, ONE)))),)
            words = ["return", sign, sign, "1", "2", "get", "b0", sign, "2", "1"]
            self.assertEqual(block_words(block), words)

    def test_the_list_is_a_new_one(self):
        block = (("return", ONE),)
        block_words(block).append("end")
        self.assertEqual(block_words(block), ["return", "1"])


class ComponentTextTest(unittest.TestCase):
    def test_every_statement_and_every_expression(self):
        component = Component(120, [[0, 7, 65535], [9]], RICH_DATA)
        self.assertEqual(component_text(component), RICH_TEXT)
        self.assertEqual(component_text(read_component(RICH_TEXT, RICH_IMPORTS)), RICH_TEXT)

    def test_the_smallest_component(self):
        self.assertEqual(component_text(Component(0, [], [(1, ())])), "room 0 procedures 1 procedure 1 end")

    def test_buffers_and_procedures_keep_their_order(self):
        component = Component(20000, [[1], [2, 3]], [(16, ()), (2, (("return", ONE),))])
        text = "room 20000 procedures 2 buffer 1 1 buffer 2 2 3 procedure 16 end procedure 2 return 1 end"
        self.assertEqual(component_text(component), text)

    def test_each_block_in_a_component(self):
        for block, text in BLOCKS:
            component = Component(5, [[0]] * 8, [(16, block)] + [(1, ())] * 7)
            words = component_text(component).split(" ")
            begin = words.index("procedure")
            with self.subTest(text=text):
                self.assertEqual(words[begin:], f"procedure 16 {text} end".split() + ["procedure", "1", "end"] * 7)
                self.assertEqual(read_component(component_text(component), 8), component)

    def test_lists_are_written_like_tuples(self):
        component = Component(5, [[1, 2]], [[1, [["set", 0, ["number", 1]]]]])
        self.assertEqual(component_text(component), "room 5 procedures 1 buffer 2 1 2 procedure 1 set l0 1 end")

    def test_components_made_by_chance_are_written_as_they_were_read(self):
        chance = Chance(3)
        for round_ in range(200):
            text = component_text(chance.component(round_ % 9))
            component = read_component(text, round_ % 9)
            self.assertEqual(component_text(component), text)

    def test_different_components_have_different_texts(self):
        chance = Chance(4)
        components = [chance.component(2) for _ in range(60)]
        for component in components:
            for other in components:
                self.assertEqual(component == other, component_text(component) == component_text(other))

    def test_the_component_stays_as_it_was(self):
        component = Component(120, [[0, 7, 65535], [9]], RICH_DATA)
        component_text(component)
        self.assertEqual(component, Component(120, [[0, 7, 65535], [9]], RICH_DATA))

    def test_limits_are_not_looked_at(self):
        component = Component(30000, [[70000]], [(17, (("set", 16, ("number", 65536)),))])
        text = "room 30000 procedures 1 buffer 1 70000 procedure 17 set l16 65536 end"
        self.assertEqual(component_text(component), text)


if __name__ == "__main__":
    unittest.main()
