"""The parts of statements and expressions, on which compiling rests."""

import unittest

from blameless.language import read_component
from blameless.parts import depth_of, expressions_of, parts_of, statements_of
from blameless.writer import block_words
from tests.helpers import with_body

BUFFERS = [[1], [2]]


def block_of(body):
    return read_component(with_body(body, buffers=BUFFERS), 1).procedures[0][1]


def expression_of(words):
    return block_of(f"return {words}")[0][1]


class PartsTest(unittest.TestCase):
    def test_statements_of(self):
        self.assertEqual(statements_of(()), [])
        block = block_of("set l0 1 if 2 set l0 3 while 4 set l0 5 end else return 6 set l0 7 end return 8")
        expressions = [expressions_of(statement) for statement in statements_of(block)]
        self.assertEqual(expressions, [[("number", number)] for number in range(1, 9)])

    def test_the_statements_stay_as_they_are(self):
        block = block_of("while l1 put b1 0 1 if 0 end end use l0 i0 3")
        self.assertEqual([statement[0] for statement in statements_of(block)], ["while", "put", "if", "use"])
        self.assertEqual(statements_of(block)[0], block[0])
        self.assertEqual(block_words(block), "while l1 put b1 0 1 if 0 end end use l0 i0 3".split())

    def test_expressions_of(self):
        one, two = ("number", 1), ("local", 2)
        bodies = ("set l3 1", "call l3 p0 1", "use l3 i0 1", "if 1 return l2 end", "while 1 return l2 end", "return 1")
        for body in bodies:
            self.assertEqual(expressions_of(block_of(body)[0]), [one])
        self.assertEqual(expressions_of(block_of("put b1 1 l2")[0]), [one, two])

    def test_parts_of(self):
        self.assertEqual(parts_of(("number", 3)), [])
        self.assertEqual(parts_of(("local", 3)), [])
        self.assertEqual(parts_of(expression_of("get b1 l2")), [("local", 2)])
        for sign in ("+", "-", "*", "/", "mod", "<", "="):
            self.assertEqual(parts_of(expression_of(f"{sign} 1 l2")), [("number", 1), ("local", 2)])

    def test_depth_of(self):
        for words, depth in [("1", 1), ("l1", 1), ("get b0 1", 2), ("+ 1 l2", 2), ("get b0 get b1 l1", 3)]:
            self.assertEqual(depth_of(expression_of(words)), depth)
        self.assertEqual(depth_of(expression_of("+ 1 + 2 + 3 l1")), 4)
        self.assertEqual(depth_of(expression_of("+ + + 1 2 3 l1")), 4)
        self.assertEqual(depth_of(expression_of("+ + 1 2 get b0 get b0 4")), 4)
