"""Texts and tokens, as far as grammars and trees tell them apart."""

import unittest

from tests.lines import EXAMPLE, form, grammar, is_grammar, last, made, tree

OK = [0, 1, 1]


def expression(text):
    """A grammar with this expression, for whose production 1.v, v, u and # are there."""
    return "S v > ; p S # : { ? " + text + "; }"


class Names(unittest.TestCase):
    def test_a_name_of_12_and_of_13_bytes(self):
        for name in ("abcdefghijkl", "a23456789012", "aBCDEFGHIJKL"):
            self.assertEqual(is_grammar("S > ; " + name + " S: { }"), OK)
            self.assertEqual(is_grammar("S > ; " + name + "m S: { }"), [-2])
            self.assertEqual(is_grammar("S > ; " + name + "9 S: { }"), [-2])
        self.assertEqual(is_grammar("Abcdefghijkl > ; p Abcdefghijkl: { }"), OK)
        self.assertEqual(is_grammar("Abcdefghijklm > ; p Abcdefghijklm: { }"), [-2])

    def test_names_are_told_apart_in_all_their_bytes(self):
        self.assertEqual(is_grammar("S > ; p S: { } pP S: { } pp S: { } p1 S: { }"), [0, 1, 4])
        self.assertEqual(is_grammar("S > ; p S: { } p S: { }"), [-2])

    def test_the_first_letter_makes_a_name_great_or_small(self):
        self.assertEqual(is_grammar("Z9z > ; zZ9 Z9z: { }"), OK)
        self.assertEqual(is_grammar("A > ; a A: { }"), OK)
        self.assertEqual(is_grammar("s > ; p s: { }"), [-2])
        self.assertEqual(is_grammar("S > ; P S: { }"), [-2])
        self.assertEqual(is_grammar("S V > ; p S: { }"), [-2])

    def test_the_words_are_no_names(self):
        for word in ("if", "then", "else"):
            self.assertEqual(is_grammar("S > ; " + word + " S: { }"), [-2])
            self.assertEqual(is_grammar("S " + word + " > ; p S: { }"), [-2])
            self.assertEqual(is_grammar("S > ; " + word + "s S: { }"), OK)
            self.assertEqual(is_grammar("S > ; " + word + "1 S: { }"), OK)
            self.assertEqual(is_grammar(word.title() + " > ; p " + word.title() + ": { }"), OK)
            self.assertEqual(last(grammar(EXAMPLE), tree(word)), [-4])

    def test_a_token_is_as_long_as_it_can_be(self):
        self.assertEqual(is_grammar("S v > ; p S: { ? ifv; }"), [-2])
        self.assertEqual(is_grammar("S ifv > ; p S: { ? ifv; }"), OK)
        self.assertEqual(is_grammar(expression("if v then 1 else 2")), OK)
        self.assertEqual(is_grammar(expression("if 1then 1else 2")), OK)
        self.assertEqual(is_grammar(expression("if v then1 else 2")), [-2])


class Numbers(unittest.TestCase):
    def test_a_number_of_18_and_of_19_digits(self):
        for digits in ("9" * 18, "0" * 18, "0" * 17 + "1"):
            self.assertEqual(is_grammar(expression(digits)), OK)
            self.assertEqual(is_grammar(expression("0" + digits)), [-2])
            self.assertEqual(made("n " + digits), [])
            self.assertEqual(last(grammar(EXAMPLE), tree("lit 0" + digits)), [-4])

    def test_zeros_before(self):
        self.assertEqual(made("n 007", form(2)), ["n 7"])
        self.assertEqual(is_grammar("S v > ; p S: { } q S: S { 001.v = 000.v; }"), [0, 1, 2])
        self.assertEqual(is_grammar("S v > ; p S: { } q S: S { 010.v = v; }"), [-2])

    def test_a_number_ends_where_its_digits_end(self):
        self.assertEqual(is_grammar("S > v; p S: { v = 12; ? 12<v; ? if 1then 2else 3; }"), OK)
        self.assertEqual(is_grammar("S > v; p S: { v = 12ab; }"), [-2])
        self.assertEqual(last(grammar(EXAMPLE), tree("lit 3lit")), [-4])
        self.assertEqual(is_grammar(expression("if 0then 1else 9" + "9" * 17)), OK)
        self.assertEqual(is_grammar(expression("if 0thenthenthent")), [-2])


class Signs(unittest.TestCase):
    def test_blanks(self):
        self.assertEqual(is_grammar("S>;p S:{}"), OK)
        self.assertEqual(is_grammar("\n\n S \n > ; \np\nS : { \n }\n \n"), OK)
        self.assertEqual(last(grammar(EXAMPLE), tree(" \n top\n( \nlit\n - \n3 )\n")), [0, 2])
        self.assertEqual(is_grammar("S v > ; p S: { } q S: S { 1 . v = 0 \n . v ; }"), [0, 1, 2])

    def test_bytes_that_begin_no_token(self):
        signs = b";:{}()[],.=<>+-*/%&|!?#"
        names = bytes(range(48, 58)) + bytes(range(65, 91)) + bytes(range(97, 123))
        for byte in range(256):
            if bytes([byte]) not in signs + names + b" \n":
                self.assertEqual(is_grammar(list(b"S > ; p S: { }") + [byte]), [-2])
                self.assertEqual(is_grammar(list(b"S > ; ") + [byte] + list(b" p S: { }")), [-2])
                self.assertEqual(last(grammar(EXAMPLE), tree(list(b"lit 3") + [byte])), [-4])
                # Nor is it a letter, wherever a great or a small name would do.
                for name in ([byte], [65, byte], [byte, 65]):
                    self.assertEqual(is_grammar(name + list(b" > ; p ") + name + list(b": { }")), [-2])
                for name in ([byte], [97, byte], [byte, 97], [97, byte, 49]):
                    self.assertEqual(is_grammar(list(b"S > ; ") + name + list(b" S: { }")), [-2])

    def test_all_letters_and_digits_make_names(self):
        for byte in list(range(65, 91)) + list(range(97, 123)):
            for name in ([byte], [byte, 48], [byte, byte]):
                great = byte < 97
                first = name if great else [83]
                second = name if not great else [112]
                self.assertEqual(is_grammar(first + list(b" > ; ") + second + [32] + first + list(b": { }")), OK)
                self.assertEqual(is_grammar(second + list(b" > ; ") + first + [32] + second + list(b": { }")), [-2])
                if not great:
                    rules = list(b"S > ; ") + second + list(b" S #: { }")
                    self.assertEqual(last(grammar(rules), tree(second + list(b" 1234567890")), form(0)),
                                     bytes(name).decode() + " 1234567890")

    def test_all_signs_of_expressions(self):
        text = "- ! # + v - 1 * 2 / 3 % 4 = [ 5 , 6 ] & ( 7 < 8 ) | 0.v"
        self.assertEqual(is_grammar(expression(text)), OK)
        for left_out in ("$", "~", "^", "@", "_", "'", '"', "\\", "`"):
            self.assertEqual(is_grammar(expression("1" + left_out + "1")), [-2])


if __name__ == "__main__":
    unittest.main()
