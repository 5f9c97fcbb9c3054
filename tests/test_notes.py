"""Programs as texts: what is written, what is read, and what can't be."""

import unittest

from claimsieve.clauses import clauses
from claimsieve.errors import BadProgram, BadText
from claimsieve.notes import read, written
from tests.generated import made_program
from tests.samples import COPY, COUNTDOWN, EVEN, deed_program, let, lets_around, program_of, tree_of

N = (("n", "number"),)
L = (("l", "list"),)
LN = (("l", "list"), ("n", "number"))
ROW = "a number l list > number : if of a len l -1 let x at l a tell x tell a"
PROGRAM = (((("a", "number"), ("l", "list")), "number",
            ("if", ("of", "a"), ("len", "l"), -1, ("let", "x", ("at", "l", "a"), ("tell", "x")), ("tell", "a"))),)
PLAIN = "n number > number : tell n"


class NotesTest(unittest.TestCase):
    def is_text_of(self, program, text):
        self.assertEqual(written(program), text)
        self.assertEqual(read(text), program)

    def bad_text(self, text, row=0):
        with self.assertRaises(BadText, msg=repr(text)) as caught:
            read(text)
        self.assertIs(type(caught.exception), BadText)
        self.assertEqual(caught.exception.row, row, repr(text))
        self.assertIs(type(caught.exception.row), int)

    def bad_program(self, text, function, place):
        with self.assertRaises(BadProgram, msg=repr(text)) as caught:
            read(text)
        self.assertEqual((caught.exception.function, caught.exception.place), (function, place), repr(text))


class WordsTest(NotesTest):
    def test_the_row_of_the_document(self):
        self.is_text_of(PROGRAM, ROW)

    def test_trees(self):
        for tree, words in (
                (("tell", "n"), "tell n"),
                (let("x", ("num", 1), ("tell", "x")), "let x num 1 tell x"),
                (("claim", (), (), 0, ("tell", "n")), "claim 0 0 0 tell n"),
                (("if", (), (), 0, ("tell", "n"), ("tell", "n")), "if 0 0 0 tell n tell n"),
                (("if", (), (), 1, ("if", (), (), 2, ("tell", "n"), let("x", ("ask",), ("tell", "x"))),
                  ("claim", (), (), 3, ("tell", "n"))),
                 "if 0 0 1 if 0 0 2 tell n let x ask tell x claim 0 0 3 tell n")):
            with self.subTest(words):
                self.is_text_of(program_of(N, "number", tree), "n number > number : " + words)

    def test_measures(self):
        rows = (((), "0"), (("of", "n"), "of n"), (("len", "l"), "len l"))
        for first, word in rows:
            for second, other in rows:
                self.is_text_of(program_of(LN, "number", ("claim", first, second, -7, ("tell", "n"))),
                                f"l list n number > number : claim {word} {other} -7 tell n")

    def test_deeds(self):
        for kind, deed, words in (
                ("number", ("num", 12), "num 12"), ("number", ("sum", "n", -3), "sum n -3"),
                ("number", ("len", "l"), "len l"), ("list", ("nil",), "nil"), ("list", ("put", "n", "l"), "put n l"),
                ("number", ("head", "l"), "head l"), ("list", ("tail", "l"), "tail l"),
                ("number", ("at", "l", "n"), "at l n"), ("number", ("ask",), "ask")):
            with self.subTest(words):
                self.is_text_of(deed_program(LN, kind, deed),
                                f"l list n number > {kind} : let out {words} tell out")

    def test_calls(self):
        for params, names, words in (
                ((), (), "( )"), (N, ("n",), "( n )"), (LN, ("l", "n"), "( l n )"),
                ((("a", "number"), ("b", "number"), ("c", "list"), ("d", "number")), ("n", "n", "l", "n"), "( n n l n )")):
            called = (params, "number", let("x", ("num", 0), ("tell", "x")))
            program = ((LN, "number", let("out", ("call", 1, names), ("tell", "out"))), called)
            head = "".join(f"{name} {kind} " for name, kind in params)
            self.is_text_of(program, f"l list n number > number : let out call 1 {words} tell out\n"
                                     f"{head}> number : let x num 0 tell x")

    def test_params(self):
        self.is_text_of(program_of((), "list", let("e", ("nil",), ("tell", "e"))), "> list : let e nil tell e")
        params = (("abcdefgh", "number"), ("i", "list"), ("zz", "list"), ("y", "number"))
        self.is_text_of(program_of(params, "list", ("tell", "zz")),
                        "abcdefgh number i list zz list y number > list : tell zz")

    def test_numbers(self):
        for n in range(-99, 100):
            self.is_text_of(program_of(N, "number", ("claim", (), (), n, let("x", ("num", n), ("tell", "x")))),
                            f"n number > number : claim 0 0 {n} let x num {n} tell x")

    def test_names_that_are_words(self):
        words = ("let", "if", "claim", "tell", "of", "len", "num", "sum", "nil", "put", "head", "tail", "at", "ask",
                 "call", "number", "list")
        for word in words:
            self.is_text_of(program_of(((word, "number"),), "number", ("tell", word)),
                            f"{word} number > number : tell {word}")
            program = program_of(((word, "number"), ("zz", "list")), "list", let("z", ("put", word, "zz"), ("tell", "z")))
            self.is_text_of(program, f"{word} number zz list > list : let z put {word} zz tell z")
            program = program_of(N, "number", ("if", ("of", "n"), (), 0, let(word, ("ask",), ("tell", word)),
                                               ("tell", "n")))
            self.is_text_of(program, f"n number > number : if of n 0 0 let {word} ask tell {word} tell n")

    def test_rows(self):
        self.is_text_of(COUNTDOWN, "n number > number : let told call 1 ( n ) tell told\n"
                                   "n number > number : if of n 0 0 tell n let less sum n -1 let rest call 1 ( less ) "
                                   "tell rest")
        self.assertEqual(read(written(COPY)), COPY)
        self.assertEqual(written(EVEN).count("\n"), 2)

    def test_kinds_of_what_is_told(self):
        self.assertIs(type(written(EVEN)), str)

        def kinds(part):
            return {type(part)}.union(*[kinds(inner) for inner in part]) if isinstance(part, tuple) else {type(part)}

        self.assertEqual(kinds(read(written(EVEN))), {tuple, str, int})


class BothWaysTest(NotesTest):
    def test_what_is_written_is_read_to_the_same(self):
        for number in range(600):
            program = made_program(number)
            text = written(program)
            self.assertEqual(read(text), program)
            self.assertEqual(written(read(text)), text)

    def test_as_many_trees_as_can_be(self):
        program = program_of(N, "number", tree_of(60, ("tell", "n")))
        self.assertEqual(read(written(program)), program)
        program = program_of(N, "number", lets_around(19, ("tell", "n")))
        self.assertEqual(read(written(program)), program)
        program = ((N, "number", ("tell", "n")),) * 6
        self.assertEqual(written(program), "\n".join([PLAIN] * 6))
        self.assertEqual(read(written(program)), program)

    def test_asked_again_the_same_is_told(self):
        for _ in range(2):
            self.is_text_of(PROGRAM, ROW)


class BadTextTest(NotesTest):
    def test_the_empty_text_and_empty_rows(self):
        self.bad_text("")
        self.bad_text("\n")
        self.bad_text("\n" + PLAIN)
        self.bad_text(PLAIN + "\n\n" + PLAIN, 1)

    def test_a_line_end_at_the_end(self):
        self.bad_text(PLAIN + "\n", 1)
        self.bad_text("\n".join([PLAIN] * 6) + "\n", 6)
        self.bad_text(PLAIN + "\n\n", 1)

    def test_blanks(self):
        for text in (" ", "  ", " " + ROW, ROW + " ", ROW.replace(" > ", "  > "), ROW.replace(" ", "  ", 1),
                     ROW.replace("tell x", "tell  x"), ROW + "  ", " " + ROW + " "):
            self.bad_text(text)
        for k, sign in enumerate(ROW):
            if sign == " ":
                self.bad_text(ROW[:k] + " " + ROW[k:])
                self.bad_text(ROW[:k] + ROW[k + 1:])
                self.bad_text(ROW[:k] + "\t" + ROW[k + 1:])

    def test_a_word_too_few(self):
        words = ROW.split(" ")
        for k in range(len(words)):
            self.bad_text(" ".join(words[:k] + words[k + 1:]))
            self.bad_text(" ".join(words[:k]))

    def test_a_word_too_much(self):
        words = ROW.split(" ")
        for more in ("a", "0", "tell", "number", ">", ":", "(", ")", "-1", "A", ""):
            for k in range(len(words) + 1):
                text = " ".join(words[:k] + [more] + words[k:])
                self.bad_text(text)

    def test_another_word(self):
        words = ROW.split(" ")
        for k, word in enumerate(words):
            for other in ("", "A", "abcdefghi", "a1", "00", "-0", "+1", "007", ".", "=>", "::", "number,", "x\r", "[", "_"):
                self.bad_text(" ".join(words[:k] + [other] + words[k + 1:]))
        for k, other in ((1, "numbers"), (1, "Number"), (4, ":"), (4, "<"), (5, "truth"), (6, ">"), (6, ";"), (7, "else"),
                         (7, "letx"), (8, "at"), (8, "1"), (10, "head"), (10, "00"), (12, "x"), (12, "1-"), (15, "look"),
                         (15, "of"), (18, "told"), (13, "deed")):
            self.bad_text(" ".join(words[:k] + [other] + words[k + 1:]))

    def test_words_exchanged(self):
        words = ROW.split(" ")
        for k in range(len(words) - 1):
            both = [words[k + 1], words[k]]
            text = " ".join(words[:k] + both + words[k + 2:])
            if not all(word in ("x", "a", "l") for word in both):
                self.bad_text(text)
        self.bad_program(ROW.replace("at l a", "at a l"), 0, 1)

    def test_numbers(self):
        for word in ("-0", "00", "07", "-07", "+1", "+0", "100", "-100", "099", "999", "-", "--1", "1-", "- 1", "1.0",
                     "1e1", "0x1", "one", "1_0", "", "10 0", "\u00b2", "\u0663", "1\u00b2", "n"):
            with self.subTest(word):
                self.bad_text(f"n number > number : claim 0 0 {word} tell n")
                self.bad_text(f"n number > number : let x num {word} tell x")
                self.bad_text(f"n number > number : let x sum n {word} tell x")
                self.bad_text(f"n number > number : let x call {word} ( n ) tell x")

    def test_names(self):
        for name in ("A", "aB", "abcdefghi", "abcdefghijklmnop", "a1", "1", "0", "-1", "_", "a_b", "", "(", ")", ">", ":",
                     "\u00e4", "a\u00e4", "\u0430", "a'", "a-b"):
            with self.subTest(name):
                self.bad_text(f"{name} number > number : tell n")
                self.bad_text(f"n number > number : tell {name}")
                self.bad_text(f"n number > number : let {name} ask tell n")
                self.bad_text(f"n number > number : claim of {name} 0 0 tell n")
                self.bad_text(f"n number > number : let x sum {name} 1 tell n")
                if name != ")":
                    self.bad_text(f"n number > number : let x call 1 ( {name} ) tell n")

    def test_kinds(self):
        for kind in ("numbers", "Number", "n", "lists", "0", "truth", "num", ""):
            self.bad_text(f"n {kind} > number : tell n")
            self.bad_text(f"n number > {kind} : tell n")

    def test_calls(self):
        for words in ("call 1", "call ( n )", "call 1 n", "call 1 ( n", "call 1 n )", "call 1 (n)", "call 1 ( )n",
                      "call 1 ( ( n ) )", "call 1 )", "call 1 ) n (", "call 1 ( n , n )", "call 1 ()", "call 1 ( n ) )"):
            with self.subTest(words):
                self.bad_text(f"n number > number : let x {words} tell x")

    def test_measures(self):
        for words in ("0 0", "of 0 0", "len 0 0", "n 0 0", "0 n 0", "of n of 0", "00 0 0", "-0 0 0", "1 0 0", "( ) 0 0",
                      "of n 0 0 0", "of n n 0 0"):
            with self.subTest(words):
                self.bad_text(f"n number > number : claim {words} tell n")

    def test_the_first_row_of_several(self):
        rows = [PLAIN] * 6
        for k in range(6):
            self.bad_text("\n".join(rows[:k] + ["tell"] + rows[k + 1:]), k)
            self.bad_text("\n".join(rows[:k] + [PLAIN + " n"] + [" "] * (5 - k)), k)

    def test_words_are_ahead_of_what_is_no_program(self):
        """A row that can't be by its words is refused, though one ahead of it is no function."""
        wrong = "n number > number : tell m"
        self.bad_text(wrong + "\nn number > number : tell M", 1)
        self.bad_text("\n".join([wrong] * 6 + [PLAIN, PLAIN + " "]), 7)
        self.bad_text("n number > number : tell m m")
        self.bad_text("n number n number > number : tell 0")

    def test_ends_within_a_row(self):
        for k, sign in enumerate(ROW):
            if sign == " ":
                text = ROW[:k] + "\n" + ROW[k + 1:]
                self.bad_text(text)
        self.bad_text(PLAIN + "\r\n" + PLAIN)
        self.bad_text(PLAIN + "\x0b" + PLAIN)
        self.bad_text(PLAIN + "\u2028" + PLAIN)

    def test_what_is_no_text(self):
        for text in (None, True, 0, (), [], (PLAIN,), [PLAIN], PROGRAM):
            self.bad_text(text)

    def test_very_many_words(self):
        """Refused by the words, however deep the trees would be."""
        deep = "claim 0 0 0 " * 5000
        self.bad_text("n number > number : " + deep + "tell")
        self.bad_text("n number > number : " + deep + "tell n n")
        self.bad_text("n number > number : " + "if 0 0 0 tell n " * 3000 + "tell n tell n")


class BadProgramTest(NotesTest):
    def test_seven_rows(self):
        self.bad_program("\n".join([PLAIN] * 7), 6, -1)
        self.bad_program("\n".join([PLAIN] * 9), 6, -1)

    def test_what_is_ahead_of_the_trees(self):
        self.bad_program("n number n list > number : tell n", 0, -1)
        self.bad_program("a list b list c list d list e list > list : tell a", 0, -1)
        self.bad_program(PLAIN + "\na number a number > number : tell a", 1, -1)

    def test_names_that_do_not_stand(self):
        self.bad_program("n number > number : tell m", 0, 0)
        self.bad_program("> number : tell m", 0, 0)
        self.bad_program("n number > number : claim of m 0 0 tell n", 0, 0)
        self.bad_program("n number > number : claim 0 len m 0 tell n", 0, 0)
        self.bad_program("n number > number : let x sum m 1 tell x", 0, 0)
        self.bad_program("n number > number : let x sum x 1 tell x", 0, 0)
        self.bad_program("n number > number : let x ask tell y", 0, 1)
        self.bad_program("n number > number : if 0 0 0 let x ask tell x tell x", 0, 3)
        self.bad_program(PLAIN + "\n" + "m number > number : tell n", 1, 0)

    def test_names_of_another_kind(self):
        self.bad_program("l list > number : tell l", 0, 0)
        self.bad_program("n number > list : tell n", 0, 0)
        self.bad_program("n number > number : claim len n 0 0 tell n", 0, 0)
        self.bad_program("l list > list : claim of l 0 0 tell l", 0, 0)
        self.bad_program("n number > number : let x head n tell x", 0, 0)
        self.bad_program("l list > list : let x head l tell x", 0, 1)

    def test_names_twice(self):
        self.bad_program("n number > number : let n ask tell n", 0, 0)
        self.bad_program("n number > number : let x ask let x ask tell x", 0, 1)

    def test_calls(self):
        for number in (0, 1, 2, 99, -1, -99):
            self.bad_program(f"n number > number : let x call {number} ( n ) tell x", 0, 0)
        called = "\nn number l list > number : tell n"
        for names in ("( )", "( n )", "( n l l )", "( l n )", "( n m )"):
            self.bad_program(f"n number l list > number : let x call 1 {names} tell x" + called, 0, 0)
        self.bad_program("n number l list > list : let x call 1 ( n l ) tell x" + called, 0, 1)

    def test_too_many_and_too_deep(self):
        tree = "claim 0 0 0 "
        read("n number > number : " + tree * 19 + "tell n")
        self.bad_program("n number > number : " + tree * 20 + "tell n", 0, 20)
        self.bad_program("n number > number : " + tree * 5000 + "tell n", 0, 20)
        self.bad_program("n number > number : " + self.wide(6), 0, 60)

    def wide(self, deep):
        """A tree of ifs on both sides."""
        return "tell n" if deep == 0 else f"if 0 0 0 {self.wide(deep - 1)} {self.wide(deep - 1)}"

    def test_written_refuses_what_clauses_does(self):
        wrong = (None, True, 0, "", ROW, (), [], [PROGRAM[0]], (None,), ((N, "number"),), PROGRAM * 7,
                 (PROGRAM[0], (N, "number", ("tell", "m"))), ((N, "number", let("x", ("num", 100), ("tell", "x"))),),
                 program_of(N, "number", tree_of(61, ("tell", "n"))), program_of(N, "number", lets_around(20, ("tell", "n"))))
        for program in wrong:
            with self.assertRaises(BadProgram) as caught:
                clauses(program)
            expected = (caught.exception.function, caught.exception.place)
            with self.assertRaises(BadProgram) as caught:
                written(program)
            self.assertEqual((caught.exception.function, caught.exception.place), expected)


if __name__ == "__main__":
    unittest.main()
