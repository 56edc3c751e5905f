"""Points 26 to 28, chance/texts.py and chance/tokens.py."""

import re
import unittest

from makers import COIN, DIE, EVEN, HUGE, LOST, ONE, SELF, TOP, TWO, X, Maker, made_terms
from chance.checks import is_test
from chance.errors import Malformed, Refused
from chance.terms import is_term
from chance.texts import parse, parse_test, show, show_test

ZERO = ("const", 0)

# The grammar of point 26: an n is any number, a w any word, and 0 the number zero. A term that begins with
# a number, two dots and a $ fits only if the number is 0; if not, NONE tells that the token behind the $ does not fit.
GRAMMAR = {
    "value": ["n", "( )", "( value values"],
    "values": [")", ", value values"],
    "test": ["even", "rising", "less n", "size n", "equals value", "not test", "all test", "any test", "both test test", "either test test"],
    "term": [
        "value", "n .. n", "0 .. $ w", "n .. $ NONE", "$ w", "!", "@", "{ }", "{ term terms", "[ | term picks", "[ n : term weights", "sum term",
        "size term", "sort term", "reverse term", "flat term", "add n term", "mul n term", "mod n term", "list n .. n term", "shuffle value",
        "keep test n term", "let w term term", "grow n term term",
    ],
    "terms": ["}", ", term terms"],
    "picks": ["]", "| term picks"],
    "weights": ["]", ", n : term weights"],
}
TOKEN = re.compile(r"[a-z]+|-?[0-9]+|\.\.|[()\[\]{},:|$!@]")


def tokens_of(text):
    return [(found.group(), found.start()) for found in TOKEN.finditer(text)]


def fits(token, symbol):
    if symbol == "n":
        return token.lstrip("-").isdigit()
    if symbol == "w":
        return token.isalpha()
    return token == symbol


def opened(stacks):
    """The ways in which the grammar can go on, each with a terminal first."""
    found = set()
    waiting = list(stacks)
    while waiting:
        stack = waiting.pop()
        if stack and stack[0] in GRAMMAR:
            waiting.extend([tuple(row.split()) + stack[1:] for row in GRAMMAR[stack[0]]])
        else:
            found.add(stack)
    return found


def misfit(text, start):
    """The index of the first token after which the text can't be completed, or None if the text fits the grammar."""
    stacks = opened([(start,)])
    for token, at in tokens_of(text):
        stacks = opened([stack[1:] for stack in stacks if stack and fits(token, stack[0])])
        if not stacks:
            return at
    return None if () in stacks else len(text)


class Texts(unittest.TestCase):
    def check(self, text, term):
        with self.subTest(text=text):
            self.assertEqual(parse(text), term)
            self.assertIs(is_term(parse(text)), True)
            self.assertIsNone(misfit(text, "term"))

    def check_test(self, text, test):
        with self.subTest(text=text):
            self.assertEqual(parse_test(text), test)
            self.assertIs(is_test(parse_test(text)), True)
            self.assertIsNone(misfit(text, "test"))

    def check_at(self, text, at, call=parse):
        with self.subTest(text=text[:200]):
            with self.assertRaises(Malformed) as caught:
                call(text)
            self.assertEqual(caught.exception.at, at)
            self.assertIsInstance(caught.exception, Refused)

    def check_both(self, text, at):
        self.check_at(text, at)
        self.check_at(text, at, parse_test)


class TestParse(Texts):
    def test_example_of_the_document(self):
        found = ("let", "x", ("range", 1, 6), ("keep", ("less", 5), 2, ("tuple", (("var", "x"), ("upto", "x")))))
        self.check("let x 1..6 keep less 5 2 {$x, 0..$x}", found)

    def test_values(self):
        for number in (0, 1, -1, 9, 10, -10, 123456789012345678, -123456789012345678, 999999999999999999, -999999999999999999):
            self.check(str(number), ("const", number))
            self.check(f"({number})", ("const", (number,)))
        self.check("()", ("const", ()))
        self.check("(1,2)", ("const", (1, 2)))
        self.check("(1,(2,(),-3),())", ("const", (1, (2, (), -3), ())))
        self.check("((((((((5))))))))", ("const", ((((((((5,),),),),),),),)))

    def test_range(self):
        self.check("1..6", ("range", 1, 6))
        self.check("-5..-2", ("range", -5, -2))
        self.check("0..0", ("range", 0, 0))
        self.check("-1000..-937", ("range", -1000, -937))
        self.check("0..63", ("range", 0, 63))

    def test_signs(self):
        self.check("!", LOST)
        self.check("{}", ("tuple", ()))
        self.check("{1}", ("tuple", (ONE,)))
        self.check("{1,!,{2}}", ("tuple", (ONE, LOST, ("tuple", (TWO,)))))
        self.check("[|1]", ("pick", (ONE,)))
        self.check("[|1|2|!]", ("pick", (ONE, TWO, LOST)))
        self.check("[3:1]", ("weigh", ((3, ONE),)))
        self.check("[3:1,1000000000000000:2]", ("weigh", ((3, ONE), (TOP, TWO))))
        self.check("[|[1:2]|{}]", ("pick", (("weigh", ((1, TWO),)), ("tuple", ()))))
        self.check("[1:1..2,2:[|(1)]]", ("weigh", ((1, ("range", 1, 2)), (2, ("pick", (("const", (1,)),))))))

    def test_maps(self):
        for word in ("sum", "size", "sort", "reverse", "flat"):
            self.check(f"{word} 1", ("map", (word,), ONE))
            self.check(f"{word}{{}}", ("map", (word,), ("tuple", ())))
            self.check(f"{word} {word} 0..1", ("map", (word,), ("map", (word,), COIN)))
        for word in ("add", "mul", "mod"):
            self.check(f"{word} 5 1", ("map", (word, 5), ONE))
            self.check(f"{word} 5 1..6", ("map", (word, 5), DIE))
            self.check(f"{word} 5{{}}", ("map", (word, 5), ("tuple", ())))
        for word in ("add", "mul"):
            self.check(f"{word} -1000 0", ("map", (word, -1000), ZERO))
            self.check(f"{word}-1 0", ("map", (word, -1), ZERO))

    def test_words(self):
        self.check("list 0..6 1", ("list", 0, 6, ONE))
        self.check("list 2..2 0..1", ("list", 2, 2, COIN))
        self.check("shuffle ()", ("shuffle", ()))
        self.check("shuffle (1,(2),3)", ("shuffle", (1, (2,), 3)))
        self.check("keep even 2 1..6", ("keep", EVEN, 2, DIE))
        self.check("keep equals 1 2 3", ("keep", ("equals", 1), 2, ("const", 3)))
        self.check("keep equals (1) 2 3..4", ("keep", ("equals", (1,)), 2, ("range", 3, 4)))
        self.check("keep both less 1 size 2 3 4", ("keep", ("both", ("less", 1), ("size", 2)), 3, ("const", 4)))
        self.check("let x 1 $x", ("let", "x", ONE, X))
        self.check("let x 1 0..$x", ("let", "x", ONE, ("upto", "x")))
        self.check("let x 1 2", ("let", "x", ONE, TWO))
        self.check("let x 1..6 2", ("let", "x", DIE, TWO))
        self.check("grow 2 1 2", ("grow", 2, ONE, TWO))
        self.check("grow 2 1 @", ("grow", 2, ONE, SELF))
        self.check("grow 4 1..6 add 1@", ("grow", 4, DIE, ("map", ("add", 1), SELF)))

    def test_names(self):
        for name in ("a", "z", "abcdefghijkl", "let", "list", "even", "sum", "keep", "self", "both"):
            self.check(f"let {name} 1 ${name}", ("let", name, ONE, ("var", name)))
            self.check(f"let {name} 1 0..${name}", ("let", name, ONE, ("upto", name)))
        self.check_at("let abcdefghijklm 1 2", len("let abcdefghijklm 1 2"))
        self.check_at("let x 1 $abcdefghijklm", len("let x 1 $abcdefghijklm"))

    def test_spaces(self):
        self.check("   1..6   ", DIE)
        self.check("1 .. 6", DIE)
        self.check("1     ..6", DIE)
        self.check(" let  x  1 .. 6  keep  less  5  2  { $ x , 0 .. $ x } ", parse("let x 1..6 keep less 5 2{$x,0..$x}"))
        self.check("[ | 1 | 2 ]", ("pick", (ONE, TWO)))
        self.check("[ 1 : 1 , 2 : 2 ]", ("weigh", ((1, ONE), (2, TWO))))
        self.check("( 1 , ( ) )", ("const", (1, ())))
        self.check("{ }", ("tuple", ()))
        self.check("sum{1,sum(2)}", ("map", ("sum",), ("tuple", (ONE, ("map", ("sum",), ("const", (2,)))))))
        self.check("let x{}$x", ("let", "x", ("tuple", ()), X))
        self.check("list 0..1-5", ("list", 0, 1, ("const", -5)))
        self.check("add 5-3", ("map", ("add", 5), ("const", -3)))
        self.check("add5 6", ("map", ("add", 5), ("const", 6)))
        self.check("grow2 3 4", ("grow", 2, ("const", 3), ("const", 4)))

    def test_other_white_space(self):
        for character in "\t\n\r\v\f\u00a0\u2003":
            self.check_both(character, 0)
            self.check_at("1" + character, 1)
            self.check_at("{1," + character + "2}", 3)
            self.check_at("{1," + character + "}}", 3)

    def test_length(self):
        for text in ("1" + " " * 4999, " " * 4999 + "1", " " * 2500 + "1" + " " * 2499):
            self.check(text, ONE)
            self.check_at(text + " ", 5000)
            self.check_at(" " + text, 5000)
        self.check_both("1" * 5001, 5000)
        self.check_both(" " * 5001, 5000)
        self.check_both("A" * 6000, 5000)
        self.check_both("A" + " " * 5000, 5000)
        self.check_both("A" + " " * 4999, 0)
        self.check_both(" " * 5000, 5000)
        self.check_at("even" + " " * 4997, 5000, parse_test)
        self.check_test("even" + " " * 4996, EVEN)
        self.check_at("1 " + " " * 4997 + "A", 4999)
        long = "{" + ",".join(["(" + ",".join(["111"] * 64) + ")"] * 19)
        long = long + " " * (4999 - len(long)) + "}"
        self.assertEqual(len(long), 5000)
        self.check(long, ("tuple", (("const", (111,) * 64),) * 19))
        self.check_at(long + " ", 5000)

    def test_empty(self):
        self.check_both("", 0)
        self.check_both(" ", 1)
        self.check_both("     ", 5)

    def test_kinds(self):
        self.assertIs(type(parse("5")[1]), int)
        self.assertIs(type(parse("[1:{2}]")[1][0]), tuple)
        self.assertIs(type(parse_test("equals (1)")[1]), tuple)


class TestParseTest(Texts):
    def test_each_form(self):
        self.check_test("even", EVEN)
        self.check_test("rising", ("rising",))
        for word in ("less", "size"):
            for number in (0, 1, -1, 64, 999999999999999999, -999999999999999999):
                self.check_test(f"{word} {number}", (word, number))
        self.check_test("less-5", ("less", -5))
        self.check_test("equals 5", ("equals", 5))
        self.check_test("equals -5", ("equals", -5))
        self.check_test("equals ()", ("equals", ()))
        self.check_test("equals(1,(2,()))", ("equals", (1, (2, ()))))
        for word in ("not", "all", "any"):
            self.check_test(f"{word} even", (word, EVEN))
            self.check_test(f"{word} {word} less 5", (word, (word, ("less", 5))))
        for word in ("both", "either"):
            self.check_test(f"{word} even rising", (word, EVEN, ("rising",)))
            self.check_test(f"{word} less 1 size 2", (word, ("less", 1), ("size", 2)))
            self.check_test(f"{word} {word} even even equals 1", (word, (word, EVEN, EVEN), ("equals", 1)))
        self.check_test("  not   even ", ("not", EVEN))

    def test_words_that_are_no_tests(self):
        for word in ("odd", "sum", "let", "list", "x", "evens", "eve", "equal", "flat", "a", "lessthan"):
            self.check_at(word, 0, parse_test)
            self.check_at(f"  {word} 5", 2, parse_test)
            self.check_at(f"not {word}", 4, parse_test)
            self.check_at(f"both even {word} 1", 10, parse_test)
            self.check_at(f"keep {word} 2 1", 5)
            self.check_at(f"keep not {word} 2 1", 9)

    def test_tests_are_no_terms(self):
        for text in ("even", "rising", "less 5", "equals 5", "not even", "all even", "any even", "both even even", "either even even"):
            self.check_at(text, 0)
        self.check("size 5", ("map", ("size",), ("const", 5)))
        self.check_test("size 5", ("size", 5))

    def test_texts_that_are_no_tests(self):
        six = "not not not not not even"
        self.check_test(six, ("not", ("not", ("not", ("not", ("not", EVEN))))))
        self.check_at("not " + six, len(six) + 4, parse_test)
        self.check_at("both even not " + six + "  ", len(six) + 16, parse_test)
        self.check_test("equals " + "(" * 8 + "5" + ")" * 8, ("equals", ((((((((5,),),),),),),),)))
        self.check_at("equals " + "(" * 9 + "5" + ")" * 9, 26, parse_test)
        row = "equals (" + ",".join(["1"] * 65) + ")"
        self.check_at(row, len(row), parse_test)
        self.check_test("equals (" + ",".join(["1"] * 64) + ")", ("equals", (1,) * 64))


class TestTokens(Texts):
    def test_numbers(self):
        self.check("123456789012345678", ("const", 123456789012345678))
        self.check("-123456789012345678", ("const", -123456789012345678))
        self.check_both("1234567890123456789", 0)
        self.check_both("-1234567890123456789", 0)
        self.check_both("  1000000000000000000", 2)
        self.check_both("1" * 19 + " " + "2", 0)
        for text in ("00", "01", "007", "-0", "-00", "-01", "000000000000000000", "0123456789"):
            self.check_both(text, 0)
            self.check_at("{1," + text + "}", 3)
            self.check_at("1.." + text, 3)
        self.check("0", ZERO)
        self.check("10", ("const", 10))
        self.check("100", ("const", 100))

    def test_minus_signs(self):
        for text in ("-", "--5", "- 5", "-x", "-(", "-..", "-$", "-,", "-"):
            self.check_both(text, 0)
            self.check_at("{1, " + text + "}", 4)
        self.check_both("5-", 1)
        self.check_both("5--3", 1)
        self.check_at("5-3", 1)
        self.check_at("5 -3", 2)
        self.check_both("x-", 1)
        self.check_both("--", 0)
        self.check("-3", ("const", -3))

    def test_dots(self):
        self.check_both(".", 0)
        self.check_both("1.", 1)
        self.check_both("1.6", 1)
        self.check_both("1. .6", 1)
        self.check_both("1...6", 3)
        self.check_at("1....6", 3)
        self.check_at("1.. ..6", 4)
        self.check_both("..", 0)
        self.check_both("..6", 0)
        self.check_at("x..6", 0)
        self.check_at("1..x", 3)
        self.check_at("1..", 3)
        self.check_at("1..-", 3)
        self.check_at("1..-0", 3)
        self.check("-1..6", ("range", -1, 6))
        self.check("-6..-1", ("range", -6, -1))
        self.check_at("list0..6.1", 8)
        self.check("list0..6 1", ("list", 0, 6, ONE))

    def test_other_characters(self):
        for character in "ABZ_;#'\"`~?/\\+=*&^<>\u00e9\u00df\u0430\u00b2\u0661\u2026\u0000\u007f\U0001d44e" + "%":
            self.check_both(character, 0)
            self.check_both(" " + character, 1)
            self.check_both("x" + character, 1)
            self.check_both("5" + character, 1)
            self.check_both("$" + character, 1)
            self.check_both("1.." + character, 3)
            self.check_both("{" + character + "}", 1)
        self.check_both("leT x 1 2", 2)
        self.check_both("Even", 0)

    def test_words(self):
        self.check_at("lett x 1 2", 0)
        self.check_at("letx 1 2", 0)
        self.check_at("evenrising", 0, parse_test)
        self.check("let x1 2", ("let", "x", ONE, TWO))
        for word in ("x", "self", "const", "range", "pick", "weigh", "tuple", "map", "var", "upto", "discard", "sums", "su", "a", "lists", "flatt"):
            self.check_at(word, 0)
            self.check_at(word + " 1", 0)
            self.check_at("{1, " + word + " 2}", 4)
            self.check_at("let x " + word + " 2", 6)
            self.check_at("sum " + word, 4)

    def test_characters_come_before_tokens(self):
        self.check_both("] A", 2)
        self.check_both("{{{{}}}}}}}} A", 13)
        self.check_both("even 5 5 5 ;", 11)
        self.check_both("x y z -", 6)
        self.check_both("1 2 3 007", 6)
        self.check_both(") 1234567890123456789", 2)
        self.check_at("{" * 30 + "A", 30)
        self.check_at("$y A", 3)
        self.check_both("A B", 0)
        self.check_both("1. A", 1)


class TestMisfits(Texts):
    def test_each_place(self):
        # Behind each text, none of these tokens fits, and the text can't end there.
        rows = [
            ("", ") ] } , : | .."), ("(", "] } { [ : | .. $ ! @ , word"), ("(1", "( [ { 1 : | .. $ ! @ ] } word"), ("(1,", ") , [ { .. word $"), ("((),", ") ] }"),
            ("{", ") ] , : | .. word"), ("{1", ") ] : | $ ! { ( word 2"), ("{1,", "} , ) ] ..  word"), ("{1..2", ".. 3 $ word | ) ]"),
            ("[", "] { ( $ ! @ , : .. word even"), ("[|", "| ] } , : .. word"), ("[|1", ", : } ) 2 word $"), ("[|1|", "| ] , :"), ("[1", ", ] | 2 .. } word"),
            ("[1:", "| ] , : } .. word"), ("[1:2", "| : } ) 3 word"), ("[1:2,", "] | , ( { $ word .."), ("[1:2,3", ", ] | .. 4"), ("1..", ".. ( { [ ! @ word ) ,"),
            ("0..", ".. ( { word ! @"), ("0..$", "1 $ ( { ! .. )"), ("$", "1 $ ( { ! .. ) ]"), ("sum", "} ) ] , | .. : word even"), ("add", "( { $ ! @ word add .. ) ["),
            ("add 1", "} ) , .. word |"), ("list", "( { $ word .. ) ["), ("list 1", "1 ( { $ word ) ["), ("list 1..", "( { $ ! word .. ) ["), ("list 1..2", ") } .. word |"),
            ("shuffle", "{ [ $ ! @ word ) .. }"), ("keep", "1 ( { $ ! sum word let list ) .."), ("keep even", "even ( { $ ! sum word .. )"), ("keep even 2", ") } .. even word |"),
            ("keep less", "even ( { $ less word .."), ("keep less 1", "even ( { $ less word .. sum"), ("keep size", "even ( { $ sum word"), ("keep equals", "even { [ $ ! word .. )"),
            ("keep equals 1", ".. ( { word even sum"), ("keep equals (1)", ".. ( { word even sum"), ("keep not", "1 ( { sum word .."), ("keep both", "1 ( { sum word .."),
            ("keep both even", "1 ( { sum word .."), ("keep either even", "1 ( { sum word .."), ("keep both even even", "even ( { sum word .."), ("keep all", "1 ( { sum word .."),
            ("keep any", "1 ( { sum word .."), ("let", "1 ( { $ ! @ .. ) ]"), ("let x", ") } .. word , |"), ("let x 1", ") } word , | :"), ("let x !", ") } word , | .."),
            ("grow", "( { $ ! word sum .. )"), ("grow 1", ") } .. word even"), ("grow 1 !", ") } .. word even"),
        ]
        for start, tokens in rows:
            for token in tokens.split():
                for spaces in ("", "   "):
                    text = start + " " + spaces + token
                    self.check_at(text, len(text) - len(token))
                    self.check_at(text + " 1 } ) ]", len(text) - len(token))
                    self.assertEqual(misfit(text, "term"), len(text) - len(token))
            for text in (start, start + "  "):
                self.check_at(text, len(text))
                self.assertEqual(misfit(text, "term"), len(text))

    def test_each_place_of_a_test(self):
        rows = [
            ("", "1 ( { [ $ ! word sum let ) .."), ("less", "even ( { word $ .."), ("size", "even ( { word $ .."), ("equals", "even { [ $ word ) .."), ("equals (", "even { word ] ,"),
            ("equals (1", "( 2 ] even .."), ("equals (1,", ") , even {"), ("not", "1 ( word sum )"), ("all", "1 ( word sum )"), ("any", "1 ( word sum )"), ("both", "1 ( word sum )"),
            ("both even", "1 ( word sum )"), ("either", "1 ( word sum )"), ("either less 2", "1 ( word sum )"), ("both not even", "1 word"),
        ]
        for start, tokens in rows:
            for token in tokens.split():
                text = start + " " + token
                self.check_at(text, len(text) - len(token), parse_test)
                self.assertEqual(misfit(text, "test"), len(text) - len(token))
            for text in (start, start + "  "):
                self.check_at(text, len(text), parse_test)

    def test_tokens_behind_the_end(self):
        for text in ("1", "1..6", "()", "{}", "!", "[|1]", "[1:2]", "sum 1", "add 1 2", "list 0..1 2", "shuffle ()", "keep even 1 2", "let x 1 2", "grow 1 2 3"):
            for token in (")", "]", "}", ",", ":", "|", "1", "$", "!", "@", "(", "{", "[", "even", "sum", "x"):
                self.check_at(text + " " + token, len(text) + 1)
                self.check_at(text + "  " + token + " " + token, len(text) + 2)
        for text in ("()", "{}", "!", "1..6", "[|1]", "sum {}"):
            self.check_at(text + "..", len(text))
        for text in ("even", "less 5", "equals 5", "equals ()", "not even", "both even even"):
            for token in (")", "1", "even", "..", "$", "x", "("):
                self.check_at(text + " " + token, len(text) + 1, parse_test)

    def test_upto_with_another_number(self):
        for number in ("1", "5", "-1", "10", "100"):
            self.check_at(f"let x 1 {number}..$x", len(f"let x 1 {number}..$"))
            self.check_at(f"{number}..$ x", len(f"{number}..$ "))
            self.check_at(f"{number}..$", len(f"{number}..$"))
            self.check_at(f"{number}..$  ", len(f"{number}..$  "))
            self.check_at(f"{number}..$5", len(f"{number}..$"))
            self.check_at(f"{number}..$}}", len(f"{number}..$"))
            self.check_at(f"{{{number}..$x, ]}}", len(f"{{{number}..$"))
        self.check("let x 1 0..$x", ("let", "x", ONE, ("upto", "x")))
        # In a list, no $ fits behind the dots.
        self.check_at("let x 1 list 0..$x 2", len("let x 1 list 0.."))
        self.check_at("let x 1 list 2..$x 2", len("let x 1 list 2.."))

    def test_mutated_texts(self):
        maker = Maker(29)
        tokens = "( ) [ ] { } , : | .. $ ! @ 0 1 -2 6 x let even less sum size add list shuffle keep grow both not equals".split()
        counts = {}
        texts = [(show(term), "term") for term in made_terms(400)] + [(show_test(test), "test") for test in tests(200) if str(HUGE) not in repr(test)]
        for text, start in texts * 5:
            words = [token for token, _ in tokens_of(text)]
            at = maker.below(len(words) + 1)
            change = maker.below(4)
            if change == 0:
                words.insert(at, maker.one_of(tokens))
            elif change == 1:
                words[at:at + 1] = [maker.one_of(tokens)]
            elif change == 2:
                del words[at:at + 1]
            else:
                del words[at:]
            mutated = maker.one_of([" ", "  "]).join(words) + maker.one_of(["", " "])
            call, is_wanted = (parse, is_term) if start == "term" else (parse_test, is_test)
            expected = misfit(mutated, start)
            if expected is not None:
                self.check_at(mutated, expected, call)
            else:
                try:
                    self.assertIs(is_wanted(call(mutated)), True)
                except Malformed as error:
                    self.assertEqual(error.at, len(mutated))
                    expected = "no term"
            counts[type(expected)] = counts.get(type(expected), 0) + 1
        self.assertGreater(counts[int], 500)
        self.assertGreater(counts[str], 10)
        self.assertGreater(counts[type(None)], 100)


class TestLevels(Texts):
    def test_terms(self):
        # Each with the index of the first term or test inside, or of what comes behind it.
        wrappers = [
            ("{", "}", 1), ("{1,", ",2}", 1), ("[|", "]", 2), ("[|1|", "]", 2), ("[1:", "]", 3), ("[1:2,3:", "]", 3), ("sum ", "", 4), ("add 1 ", "", 6),
            ("list 1..2 ", "", 10), ("keep even 1 ", "", 5), ("let x ", " 1", 6), ("let x 1 ", "", 6), ("grow 1 ", " 1", 7), ("grow 1 1 ", "", 7),
        ]
        for before, after, inside in wrappers:
            for leaf in ("5", "1..2", "!", "{}", "[|1]", "sum 1", "x", "let", "[1", "..", "1 2 3"):
                if leaf in ("5", "1..2", "!", "{}"):
                    self.assertIs(is_term(parse(before * 23 + leaf + after * 23)), True)
                at = len(before) * 23 + inside
                self.check_at(before * 24 + leaf + after * 24, at)
                self.check_at(before * 24 + "  " + leaf, at + 2 if inside == len(before) else at)
                self.check_at(before * 30 + leaf, at)
            self.check_at(before * 24, at)
            self.check_at(before * 25, at)

    def test_a_row_that_ends_at_once(self):
        # The signs at the end of an empty row are no terms.
        self.assertIs(is_term(parse("{" * 24 + "}" * 24)), True)
        self.check_at("{" * 25 + "}" * 25, 24)
        self.check_at("{" * 24 + ",", 24)
        self.check_at("{" * 24 + "]", 24)
        self.check_at("{" * 24, 24)

    def test_values(self):
        # A value in parentheses is one level below the term or test in which it stands.
        self.check("{" * 22 + "()" + "}" * 22, nested(("const", ()), 22))
        self.check_at("{" * 23 + "()" + "}" * 23, 23)
        self.check_at("{" * 23 + "(" + "}" * 23, 23)
        self.check("{" * 23 + "1" + "}" * 23, nested(ONE, 23))
        self.check("{" * 21 + "((1),2)" + "}" * 21, nested(("const", ((1,), 2)), 21))
        self.check_at("{" * 22 + "((1),2)" + "}" * 22, 23)
        self.check_at("{" * 22 + "(2,3,(1))" + "}" * 22, 27)
        self.check("{" * 22 + "(1,2)" + "}" * 22, nested(("const", (1, 2)), 22))
        self.check("{" * 22 + "shuffle (1)" + "}" * 22, nested(("shuffle", (1,)), 22))
        self.check_at("{" * 23 + "shuffle (1)" + "}" * 23, 31)
        self.check_at("{" * 22 + "shuffle ((1))" + "}" * 22, 31)
        # 24 and 25 levels of parentheses; neither is a value of point 2.
        self.check_at("(" * 23 + ")" * 23, 46)
        self.check_at("(" * 24 + ")" * 24, 23)
        self.check_at("(" * 25 + ")" * 25, 23)
        self.check_at("(" * 23, 23)
        self.check_at("shuffle " + "(" * 23 + ")" * 23, 54)
        self.check_at("shuffle " + "(" * 24 + ")" * 24, 31)
        self.check_at("equals " + "(" * 23 + ")" * 23, 53, parse_test)
        self.check_at("equals " + "(" * 24 + ")" * 24, 30, parse_test)

    def test_tests(self):
        for before, inside in (("not ", 4), ("all ", 4), ("any ", 4), ("both even ", 5), ("either even ", 7)):
            self.check_at(before * 23 + "even", len(before) * 23 + 4, parse_test)
            for after in ("even", "x", "", before * 6, "even even"):
                self.check_at(before * 24 + after, len(before) * 23 + inside, parse_test)
        # The first test in a double one has the same level as the second one.
        self.check_at("both " * 24 + "even", 120, parse_test)
        self.check_at("both " * 23 + "even " * 24, 23 * 5 + 24 * 5, parse_test)

    def test_mixed(self):
        # A keep of level 23 has a test of level 24.
        self.check("{" * 22 + "keep even 1 2" + "}" * 22, nested(("keep", EVEN, 1, TWO), 22))
        self.check_at("{" * 23 + "keep even 1 2" + "}" * 23, 28)
        self.check_at("{" * 22 + "keep not even 1 2" + "}" * 22, 31)
        self.check("{" * 21 + "keep not even 1 2" + "}" * 21, nested(("keep", ("not", EVEN), 1, TWO), 21))
        self.check("{" * 22 + "keep equals 3 1 2" + "}" * 22, nested(("keep", ("equals", 3), 1, TWO), 22))
        self.check_at("{" * 22 + "keep equals (3) 1 2" + "}" * 22, 34)
        self.check("{" * 21 + "keep equals (3) 1 2" + "}" * 21, nested(("keep", ("equals", (3,)), 1, TWO), 21))
        self.check_at("{" * 21 + "keep equals ((3)) 1 2" + "}" * 21, 34)
        self.check("{" * 19 + "keep both even not equals (3) 1 2" + "}" * 19, nested(("keep", ("both", EVEN, ("not", ("equals", (3,)))), 1, TWO), 19))
        self.check_at("{" * 20 + "keep both even not equals (3) 1 2" + "}" * 20, 46)
        self.check_at("sum " * 12 + "{" * 12 + "1", 60)
        self.check_at("{" * 23 + "add 1 2", 29)
        self.check("{" * 22 + "add 1 2" + "}" * 22, nested(("map", ("add", 1), TWO), 22))
        self.check("{" * 22 + "[|1|2]" + "}" * 22, nested(("pick", (ONE, TWO)), 22))
        self.check_at("{" * 23 + "[|1|2]" + "}" * 23, 25)
        self.check_at("{" * 23 + "[1:2]" + "}" * 23, 26)
        self.check_at("{" * 23 + "[1:", 26)
        self.check_at("{" * 23 + "[]", 24)


def nested(term, levels):
    for _ in range(levels):
        term = ("tuple", (term,))
    return term


class TestNoTerms(Texts):
    def check_end(self, text):
        """Check that a text fits the grammar, but is malformed at its end."""
        self.assertIsNone(misfit(text, "term"))
        for whole in (text, text + "   ", "  " + text):
            self.check_at(whole, len(whole))

    def test_free_variables_and_selfs(self):
        for text in ("$x", "0..$x", "@", "let x $x 1", "let x 1 $y", "{let x 1 $x, $x}", "grow 1 @ 2", "{grow 1 1 @, @}", "let x 1 @", "grow 1 $x 1"):
            self.check_end(text)
        self.check("grow 1 1 grow 1 @ 2", ("grow", 1, ONE, ("grow", 1, SELF, TWO)))

    def test_numbers_out_of_their_range(self):
        texts = [
            "1..0", "0..64", "-1001..0", "1001..1002", "[0:1]", "[-1:1]", "[1000000000000001:1]", "[1:1,0:2]", "add 1001 1", "add -1001 1", "mul 1001 1",
            "mul -1001 1", "mod 0 1", "mod -1 1", "mod 1001 1", "list -1..2 1", "list 2..1 1", "list 0..7 1", "keep even 0 1", "keep even 5 1", "keep even -1 1",
            "grow -1 1 2", "grow 5 1 2", "1..999999999999999999",
        ]
        for text in texts:
            self.check_end(text)

    def test_too_many_parts(self):
        for before, part, after in (("(", "1", ")"), ("{", "1", "}"), ("[", "1:1", "]"), ("shuffle (", "1", ")")):
            self.check_end(before + ",".join([part] * 65) + after)
            if before != "shuffle (":
                self.assertIs(is_term(parse(before + ",".join([part] * 64) + after)), True)
        self.check_end("[" + "|1" * 65 + "]")
        self.assertIs(is_term(parse("[" + "|1" * 64 + "]")), True)
        self.check_end("shuffle (1,2,3,4,5)")
        self.check_end("shuffle 5")

    def test_too_deep(self):
        self.check_end("(" * 9 + ")" * 9)
        self.check_end("{" + "(" * 9 + ")" * 9 + "}")
        self.check_end("shuffle " + "(" * 9 + ")" * 9)
        self.check_end("keep not not not not not not even 1 2")
        self.check_end("keep equals " + "(" * 9 + ")" * 9 + " 1 2")
        self.check("(" * 8 + ")" * 8, ("const", ((((((((),),),),),),),)))

    def test_long_names(self):
        self.check_end("let abcdefghijklm 1 2")
        self.check_end("let x 1 let abcdefghijklm 1 $abcdefghijklm")


def tests(count):
    """So many tests, the same ones each time."""
    maker = Maker(31)

    def made(depth):
        if depth == 0:
            return maker.one_of([
                EVEN, ("rising",), ("less", maker.below(9) - 4), ("size", maker.below(3)), ("equals", maker.below(5)), ("equals", ()),
                ("equals", (1, (-2, ()), 3)), ("less", HUGE), ("equals", (-HUGE,)),
            ])
        one, two = made(depth - 1), made(maker.below(depth))
        return maker.one_of([("not", one), ("all", one), ("any", one), ("both", one, two), ("both", two, one), ("either", one, two), ("either", two, one)])

    return [made(maker.below(6)) for _ in range(count)]


class TestShow(Texts):
    TERMS = [
        ZERO, ("const", -5), ("const", 999999999999999999), ("const", ()), ("const", (1,)), ("const", (1, -2, (), ((3,),))), ("const", (0,) * 64), LOST, ("range", -5, 5),
        ("range", 0, 0), ("pick", (ONE,)), ("pick", (ONE, TWO, LOST)), ("weigh", ((3, ONE),)), ("weigh", ((TOP, ONE), (1, LOST))), ("tuple", ()), ("tuple", (ONE,)),
        ("tuple", (ONE, TWO)), ("tuple", (("const", (1, 2)), ("tuple", (ONE, TWO)), ("const", ()), ("tuple", ()))), ("list", 0, 6, DIE), ("shuffle", ()),
        ("shuffle", (1, (2, ()), -3)), ("map", ("sum",), ONE), ("map", ("size",), ("const", ())), ("map", ("sort",), ONE), ("map", ("reverse",), ONE), ("map", ("flat",), ONE),
        ("map", ("add", -1000), ONE), ("map", ("mul", 0), ("const", -1)), ("map", ("mod", 1000), DIE), ("keep", EVEN, 1, ONE), ("keep", ("equals", (1,)), 4, DIE),
        ("keep", ("less", 5), 2, ("const", 3)), ("keep", ("both", ("not", ("all", ("size", -1))), ("either", ("rising",), ("any", ("equals", 0)))), 3, LOST),
        ("let", "x", ONE, X), ("let", "x", DIE, ("upto", "x")), ("let", "abcdefghijkl", ZERO, ("const", 1)), ("let", "let", ("const", 1), ("var", "let")),
        ("grow", 0, ONE, SELF), ("grow", 4, ("range", 0, 1), ("tuple", (SELF, ("grow", 1, SELF, SELF)))), ("let", "x", ("const", 1), ("const", -2)),
        ("pick", (("pick", (ONE, ("weigh", ((1, TWO), (2, ("pick", (ONE,))))))), TWO)),
    ]

    def fits(self, text, start):
        self.assertIs(type(text), str)
        self.assertTrue(text.isascii())
        self.assertEqual(re.sub(TOKEN, "", text).strip(" "), "")
        self.assertIsNone(misfit(text, start))

    def test_each_form(self):
        for term in self.TERMS:
            with self.subTest(term=term):
                text = show(term)
                self.fits(text, "term")
                self.assertEqual(parse(text), term)
                self.assertEqual(show(parse(text)), text)

    def test_open_terms(self):
        for term in (X, ("upto", "x"), SELF, ("tuple", (X, SELF)), ("let", "x", X, SELF)):
            self.fits(show(term), "term")
        texts = [show(term) for term in (X, ("upto", "x"), SELF, ("var", "y"), LOST, ONE)]
        self.assertEqual(len(set(texts)), 6)

    def test_different_terms_have_different_texts(self):
        texts = [show(term) for term in self.TERMS]
        self.assertEqual(len(set(texts)), len(texts))

    def test_many_terms(self):
        for term in made_terms(800):
            text = show(term)
            self.fits(text, "term")
            self.assertEqual(parse(text), term)
            # Equal terms have equal texts, however they were made.
            self.assertEqual(show(eval(repr(term))), text)

    def test_tests(self):
        each = [
            EVEN, ("rising",), ("less", 5), ("less", -5), ("size", 0), ("size", 64), ("equals", 0), ("equals", -1), ("equals", ()), ("equals", (1, (2, ()), -3)),
            ("not", EVEN), ("all", EVEN), ("any", ("less", 3)), ("both", EVEN, ("size", 1)), ("either", ("equals", 5), ("equals", (5,))),
            ("not", ("not", ("not", ("not", ("not", EVEN))))),
        ]
        for test in each:
            text = show_test(test)
            self.fits(text, "test")
            self.assertEqual(parse_test(text), test)
        for test in tests(300):
            text = show_test(test)
            self.assertEqual(show_test(eval(repr(test))), text)
            self.assertTrue(text.isascii())
            if "0" * 30 not in text:
                self.assertEqual(parse_test(text), test)

    def test_long_numbers(self):
        for number in (10 ** 18, 10 ** 18 - 1, 10 ** 18 + 1, 10 ** 36, 10 ** 36 - 1, 10 ** 40, 123456789 * 10 ** 30, 10 ** 54 + 7):
            for sign in (1, -1):
                digits = str(sign * number)
                for text in (show(("const", sign * number)), show_test(("less", sign * number)), show_test(("size", sign * number)), show_test(("equals", sign * number))):
                    self.assertEqual(tokens_of(text)[-1][0], digits)
                self.assertEqual([token for token, _ in tokens_of(show(("const", (0, (sign * number,)))))], ["(", "0", ",", "(", digits, ")", ")"])
                self.assertIn(digits, [token for token, _ in tokens_of(show(("shuffle", (sign * number, 1))))])
        self.check_at(show(("const", 10 ** 18)), 0)
        self.check(show(("const", 10 ** 18 - 1)), ("const", 10 ** 18 - 1))
        self.check(show(("const", 1 - 10 ** 18)), ("const", 1 - 10 ** 18))

    def test_very_long_numbers(self):
        # Longer than Python itself writes an integer.
        for count in (4300, 4301, 20000):
            text = show(("const", 10 ** count))
            self.assertEqual(text, "1" + "0" * count)
            self.assertEqual(show(("const", -(10 ** count))), "-1" + "0" * count)
            self.assertEqual(show(("const", 10 ** count - 1)), "9" * count)

    def test_texts_longer_than_5000_characters(self):
        term = ("tuple", (("const", (123456789,) * 64),) * 64)
        text = show(term)
        self.assertGreater(len(text), 5000)
        self.fits(text, "term")
        self.check_at(text, 5000)

    def test_values_nested_deeper_than_python_nests_calls(self):
        deep = 5
        for _ in range(5000):
            deep = (deep,)
        self.assertEqual([token for token, _ in tokens_of(show(("const", deep)))], ["("] * 5000 + ["5"] + [")"] * 5000)


if __name__ == "__main__":
    unittest.main()
