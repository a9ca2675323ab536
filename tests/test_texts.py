"""Tests of the texts of programs: points 2, 3, 7 and 8."""

import copy
import inspect
import itertools
import sys
import unittest

from trireme.errors import LimitError, ParseError
from trireme.texts import parse, print_program

LOW = -2147483648
HIGH = 2147483647

ADD = ("add", 1, ("reg", 2), ("int", 5))
ADD_LINE = "add r1 r2 5"

# Each kind of instruction with registers, with integers, and with both.
INSTRUCTIONS = [
    (ADD, ADD_LINE),
    (("add", 0, ("reg", 15), ("reg", 10)), "add r0 r15 r10"),
    (("add", 15, ("int", 0), ("int", -1)), "add r15 0 -1"),
    (("sub", 3, ("reg", 3), ("reg", 9)), "sub r3 r3 r9"),
    (("sub", 3, ("int", -10), ("reg", 9)), "sub r3 -10 r9"),
    (("mul", 4, ("reg", 0), ("int", HIGH)), f"mul r4 r0 {HIGH}"),
    (("mul", 4, ("int", LOW), ("reg", 0)), f"mul r4 {LOW} r0"),
    (("and", 11, ("reg", 12), ("reg", 13)), "and r11 r12 r13"),
    (("and", 11, ("int", 255), ("int", -256)), "and r11 255 -256"),
    (("less", 5, ("reg", 6), ("int", 100)), "less r5 r6 100"),
    (("less", 5, ("int", -7), ("reg", 7)), "less r5 -7 r7"),
    (("load", 1, ("reg", 2)), "load r1 r2"),
    (("load", 1, ("int", -2)), "load r1 -2"),
    (("store", ("reg", 2), ("int", 7)), "store r2 7"),
    (("store", ("int", -3), ("reg", 8)), "store -3 r8"),
    (("store", ("reg", 2), ("reg", 2)), "store r2 r2"),
    (("store", ("int", 1), ("int", -1)), "store 1 -1"),
    (("out", ("reg", 1)), "out r1"),
    (("out", ("int", 42)), "out 42"),
    (("out", ("int", -42)), "out -42"),
]

TURNS = [
    (("reg", 3), "r3"), (("reg", 15), "r15"), (("int", 5), "5"), (("int", 0), "0"),
    (("int", -2), "-2"), (("int", 40), "40"), (("int", LOW), str(LOW)), (("int", HIGH), str(HIGH)),
]

PROGRAM = (
    ("load", 1, ("reg", 0)),
    ("loop", ("reg", 3), (ADD, ("store", ("int", -1), ("reg", 1)))),
    ("loop", ("int", 5), (("out", ("reg", 1)),)),
    ("out", ("int", -12)),
)
PROGRAM_TEXT = (
    "load r1 r0\n"
    "loop r3\n"
    "  add r1 r2 5\n"
    "  store -1 r1\n"
    "end\n"
    "loop 5\n"
    "  out r1\n"
    "end\n"
    "out -12\n"
)


def lines(*rows):
    return "".join(row + "\n" for row in rows)


class PrintTest(unittest.TestCase):
    def test_whole_text(self):
        self.assertEqual(print_program(PROGRAM), PROGRAM_TEXT)

    def test_empty_program(self):
        self.assertEqual(print_program(()), "")

    def test_each_instruction(self):
        for instruction, line in INSTRUCTIONS:
            with self.subTest(line=line):
                self.assertEqual(print_program((instruction,)), line + "\n")
                self.assertEqual(
                    print_program((("loop", ("int", 1), (instruction,)),)),
                    "loop 1\n  " + line + "\nend\n",
                )

    def test_turns(self):
        for operand, word in TURNS:
            with self.subTest(word=word):
                self.assertEqual(
                    print_program((("loop", operand, (ADD, ADD)),)),
                    f"loop {word}\n  {ADD_LINE}\n  {ADD_LINE}\nend\n",
                )

    def test_no_error_somewhat_beyond_the_limits(self):
        self.assertEqual(print_program((ADD,) * 13), (ADD_LINE + "\n") * 13)
        self.assertEqual(
            print_program((("loop", ("reg", 16), (ADD,) * 13),)),
            "loop r16\n" + ("  " + ADD_LINE + "\n") * 13 + "end\n",
        )
        self.assertEqual(
            print_program((("add", 16, ("int", HIGH + 1), ("int", LOW - 1)),)),
            "add r16 2147483648 -2147483649\n",
        )


class ParseTest(unittest.TestCase):
    def test_whole_text(self):
        self.assertEqual(parse(PROGRAM_TEXT), PROGRAM)

    def test_each_instruction(self):
        for instruction, line in INSTRUCTIONS:
            with self.subTest(line=line):
                self.assertEqual(parse(line), (instruction,))
                self.assertEqual(
                    parse("loop r1\n" + line + "\nend"), (("loop", ("reg", 1), (instruction,)),),
                )

    def test_turns(self):
        for operand, word in TURNS:
            with self.subTest(word=word):
                self.assertEqual(
                    parse(f"loop {word}\n{ADD_LINE}\nend\n"), (("loop", operand, (ADD,)),),
                )

    def test_every_register(self):
        for k in range(16):
            with self.subTest(k=k):
                self.assertEqual(parse(f"load r{k} r{k}"), (("load", k, ("reg", k)),))

    def test_integers(self):
        for n in (0, 1, 9, 10, 100, 1234567890, HIGH - 1, HIGH, -1, -10, LOW + 1, LOW):
            with self.subTest(n=n):
                self.assertEqual(parse(f"store {n} {n}"), (("store", ("int", n), ("int", n)),))

    def test_text_without_statements(self):
        for text in ("", "\n", "\n\n\n", "  ", " \n  \n", "#", "# add r1\n", "  # end #\n#\n\n"):
            with self.subTest(text=text):
                self.assertEqual(parse(text), ())

    def test_printed_text_returns_the_program(self):
        instructions = [instruction for instruction, _ in INSTRUCTIONS]
        turns = [operand for operand, _ in TURNS]
        for first, last, count in itertools.product(instructions, instructions, turns[:4]):
            program = (first, ("loop", count, (last, first)), last, ("loop", count, (first,)))
            self.assertEqual(parse(print_program(program)), program)

    def test_with_and_without_a_newline_at_the_end(self):
        self.assertEqual(parse(PROGRAM_TEXT[:-1]), PROGRAM)
        self.assertEqual(parse(PROGRAM_TEXT + "\n\n"), PROGRAM)
        self.assertEqual(parse("\n\n" + PROGRAM_TEXT), PROGRAM)

    def test_more_spaces(self):
        wide = "\n".join(
            "   " + line.replace(" ", "    ") + "  " for line in PROGRAM_TEXT.split("\n")
        )
        self.assertEqual(parse(wide), PROGRAM)

    def test_no_indentation(self):
        self.assertEqual(parse(PROGRAM_TEXT.replace("\n  ", "\n")), PROGRAM)

    def test_comments(self):
        for comment in ("#", " # of a line", "# loop 5 # end", "  #end", "#add r1"):
            with self.subTest(comment=comment):
                self.assertEqual(parse(PROGRAM_TEXT.replace("\n", comment + "\n")), PROGRAM)

    def test_lines_without_words(self):
        for line in ("", "   ", "# add r1 r2", "   # alone", "##"):
            with self.subTest(line=line):
                spread = PROGRAM_TEXT.replace("\n", "\n" + line + "\n")
                self.assertEqual(parse(spread), PROGRAM)

    def test_kinds_of_values(self):
        program = parse(PROGRAM_TEXT)
        self.assertEqual(leaf_kinds(program), {str, int})
        self.assertIs(type(print_program(program)), str)

    def test_arguments_stay_and_answers_repeat(self):
        program = copy.deepcopy(PROGRAM)
        self.assertEqual(print_program(program), print_program(program))
        self.assertEqual(program, PROGRAM)
        with self.assertRaises(ParseError):
            parse("loop 3\n" + ADD_LINE)
        with self.assertRaises(LimitError):
            parse("out r16")
        self.assertEqual(parse(PROGRAM_TEXT), PROGRAM)
        self.assertEqual(parse(PROGRAM_TEXT), PROGRAM)

    def test_interface(self):
        self.assertEqual(parse.__module__, "trireme.texts")
        self.assertEqual(print_program.__module__, "trireme.texts")
        self.assertEqual(list(inspect.signature(parse).parameters), ["text"])
        self.assertEqual(list(inspect.signature(print_program).parameters), ["program"])


def leaf_kinds(value):
    """The kinds of what stands in nested tuples; other collections show up."""
    if type(value) is not tuple:
        return {type(value)}
    return set().union(*(leaf_kinds(part) for part in value))


class ParseErrorTest(unittest.TestCase):
    def refuse(self, text, line):
        with self.subTest(text=text):
            with self.assertRaises(ParseError) as caught:
                parse(text)
            self.assertEqual(caught.exception.line, line)
            self.assertIs(type(caught.exception.line), int)

    def refuse_line(self, line):
        self.refuse(line, 0)
        self.refuse(lines(ADD_LINE, "", line, ADD_LINE), 2)
        self.refuse(lines("loop 2", "# inside", ADD_LINE, line, "end"), 3)

    def test_unknown_words(self):
        for word in (
            "adds", "ad", "loop3", "loops", "ends", "en", "outs", "ADD", "Add", "Out", "LOOP", "End",
            "or", "div", "r1", "5", "reg", "int", "None", "add,", "-", "*", "nop", "move",
        ):
            for rest in ("", " r1", " r1 r2", " r1 r2 r3"):
                self.refuse_line(word + rest)

    def test_numbers_of_operands(self):
        many = {
            "add": 3, "sub": 3, "mul": 3, "and": 3, "less": 3, "load": 2, "store": 2, "out": 1,
            "loop": 1,
        }
        for word, right in many.items():
            for given in range(6):
                if given != right:
                    self.refuse(word + " r1" * given, 0)
                    self.refuse(lines(ADD_LINE, word + " r1" * given), 1)

    def test_a_comment_takes_operands_away(self):
        self.refuse("add r1 r2 # 5", 0)
        self.refuse("add r1 r2#5", 0)
        self.refuse("add r1 r#2 5", 0)

    def test_an_integer_where_a_register_must_be(self):
        for op in ("add", "sub", "mul", "and", "less"):
            self.refuse_line(f"{op} 1 r2 r3")
            self.refuse_line(f"{op} -1 2 3")
        self.refuse_line("load 1 r2")
        self.refuse_line("load 0 2")

    def test_words_that_are_no_operand(self):
        for word in (
            "r", "r01", "r00", "r015", "R1", "r-1", "r-0", "r+1", "r1r", "rr1", "r1.", "-r1", "r_1",
            "-0", "00", "007", "-007", "-00", "+1", "+0", "--5", "5-", "-", "--", "-+5", "1_000", "1.0",
            "1e3", "0x1", "five", "x", "r1,", "1,", "(1)", "\"1\"", "add", "end", "loop",
        ):
            for line in (
                f"add {word} r1 r2", f"add r1 {word} r2", f"sub r1 r2 {word}", f"mul r1 {word} 2",
                f"and r1 2 {word}", f"less {word} 1 2", f"load {word} r1", f"load r1 {word}",
                f"store {word} 1", f"store 1 {word}", f"out {word}",
            ):
                self.refuse_line(line)
            self.refuse(lines(ADD_LINE, f"loop {word}", ADD_LINE, "end"), 1)

    def test_digits_are_decimal_digits_of_ascii(self):
        for sign in ("\u0663", "\u00b2", "\uff15"):
            self.refuse(f"out {sign}", 0)
            self.refuse(f"out r{sign}", 0)

    def test_words_are_separated_by_spaces_alone(self):
        self.refuse("add\tr1 r2 5", 0)
        self.refuse("out r1\t", 0)
        self.refuse("out r1\r\nout r2\r\n", 0)
        self.refuse("out r1\x0bout r2", 0)

    def test_loop_within_a_loop(self):
        self.refuse(lines("loop 2", "loop 3", ADD_LINE, "end", "end"), 1)
        self.refuse(lines("loop 2", ADD_LINE, "", "loop r3", ADD_LINE, "end", "end"), 3)
        self.refuse(lines("loop 1", ADD_LINE, "end", "loop 2", ADD_LINE, "loop 1"), 5)

    def test_end_without_a_loop(self):
        self.refuse("end", 0)
        self.refuse(lines("", "end"), 1)
        self.refuse(lines(ADD_LINE, ADD_LINE, "end"), 2)
        self.refuse(lines("loop 2", ADD_LINE, "end", "end"), 3)
        self.refuse(lines("loop 2", ADD_LINE, "end", ADD_LINE, "end"), 4)

    def test_end_behind_an_empty_body(self):
        self.refuse(lines("loop 2", "end"), 1)
        self.refuse(lines("loop 2", "", "  # nothing", "end"), 3)
        self.refuse(lines(ADD_LINE, "loop 2", "end"), 2)
        self.refuse(lines("loop 2", ADD_LINE, "end", "loop 2", "end"), 4)

    def test_words_behind_end(self):
        for rest in ("end", "1", "r1", "loop", "x y"):
            self.refuse(lines("loop 2", ADD_LINE, "end " + rest), 2)

    def test_a_loop_that_does_not_end(self):
        self.refuse("loop 2", 1)
        self.refuse("loop 2\n", 2)
        self.refuse("loop 2\n\n\n", 4)
        self.refuse("loop 2\n" + ADD_LINE, 2)
        self.refuse("loop 2\n" + ADD_LINE + "\n", 3)
        self.refuse("loop 2\n" + ADD_LINE + "\n# end", 3)
        self.refuse(lines("loop 1", ADD_LINE, "end", "loop 2", ADD_LINE), 6)

    def test_the_first_of_several_wrong_lines(self):
        self.refuse(lines(ADD_LINE, "adds", "end", "out"), 1)
        self.refuse(lines("end", "adds"), 0)
        self.refuse(lines("loop 2", "out", "loop 3"), 1)
        self.refuse(lines("loop 2", "out 007", "end"), 1)
        self.refuse(lines("loop", ADD_LINE, "end"), 0)
        self.refuse(lines("loop 2", "loop 3", "adds"), 1)
        self.refuse(lines("loop 2", "end", "adds"), 1)
        self.refuse(lines("", "out r01", "out 1", "out r01"), 1)


class LimitErrorTest(unittest.TestCase):
    def refuse(self, text):
        with self.subTest(text=text):
            with self.assertRaises(LimitError):
                parse(text)

    def test_registers(self):
        for k in (16, 17, 20, 99, 100, 16777216, 4294967296, 10 ** 50, 10 ** 3000):
            for line in (
                f"add r{k} 1 2", f"sub r1 r{k} 2", f"mul r1 2 r{k}", f"and r{k} r1 r1",
                f"less r1 r1 r{k}", f"load r{k} 1", f"load r1 r{k}", f"store r{k} 1",
                f"store 1 r{k}", f"out r{k}",
            ):
                self.refuse(line)
                self.refuse(lines("loop 2", line, "end"))
            self.refuse(lines(f"loop r{k}", ADD_LINE, "end"))

    def test_integers(self):
        for n in (HIGH + 1, 9999999999, 10 ** 11, 10 ** 3000, LOW - 1, -9999999999, -10 ** 10, -10 ** 3000):
            for line in (
                f"add r1 {n} 2", f"add r1 2 {n}", f"sub r1 {n} 2", f"mul r1 2 {n}",
                f"and r1 r1 {n}", f"less r1 {n} r1", f"load r1 {n}", f"store {n} 1",
                f"store 1 {n}", f"out {n}",
            ):
                self.refuse(line)
                self.refuse(lines("loop 2", line, "end"))
            self.refuse(lines(f"loop {n}", ADD_LINE, "end"))

    def test_longest_numbers(self):
        self.refuse("out " + "9" * 3996)
        self.refuse("out -" + "9" * 3995)
        self.refuse("out r" + "9" * 3995)

    def test_numbers_that_python_may_refuse_to_read(self):
        digits = sys.get_int_max_str_digits()
        self.addCleanup(sys.set_int_max_str_digits, digits)
        sys.set_int_max_str_digits(640)
        self.refuse("out " + "9" * 641)
        self.refuse("out -" + "9" * 641)
        self.refuse("out r" + "9" * 641)

    def test_statements(self):
        self.assertEqual(parse(lines(*[ADD_LINE] * 12)), (ADD,) * 12)
        self.refuse(lines(*[ADD_LINE] * 13))
        loop = ["loop 2", ADD_LINE, ADD_LINE, "end"]
        program = (("loop", ("int", 2), (ADD, ADD)),)
        self.assertEqual(parse(lines(*loop * 12)), program * 12)
        self.refuse(lines(*loop * 13))
        self.assertEqual(parse(lines(*loop, *[ADD_LINE] * 11)), program + (ADD,) * 11)
        self.refuse(lines(*loop, *[ADD_LINE] * 12))

    def test_instructions_of_a_body(self):
        for before in ([], [ADD_LINE]):
            for many in (12, 13, 14):
                text = lines(*before, "loop 2", *[ADD_LINE] * many, "end")
                if many == 12:
                    loop = ("loop", ("int", 2), (ADD,) * 12)
                    self.assertEqual(parse(text), (ADD,) * len(before) + (loop,))
                else:
                    self.refuse(text)

    def test_the_bodies_of_all_loops(self):
        full = ["loop 2", *[ADD_LINE] * 12, "end"]
        self.assertEqual(
            parse(lines(*full * 12)), (("loop", ("int", 2), (ADD,) * 12),) * 12,
        )
        self.refuse(lines(*full * 11, "loop 2", *[ADD_LINE] * 13, "end"))
        self.refuse(lines("loop 2", *[ADD_LINE] * 13, "end", *full))

    def test_length(self):
        for many in (3999, 4000):
            self.assertEqual(parse(" " * many), ())
            self.assertEqual(parse(("out r1 #" + "x" * many)[:many]), (("out", ("reg", 1)),))
            self.assertEqual(parse("\n" * many), ())
        for many in (4001, 8000):
            self.refuse(" " * many)
            self.refuse("#" * many)
            self.refuse("\n" * many)
            self.refuse(("out r1 #" + "x" * many)[:many])


class OrderOfErrorsTest(unittest.TestCase):
    def test_a_parse_error_goes_ahead_of_a_limit_error(self):
        for line in ("out r16", f"out {HIGH + 1}", "out r" + "9" * 2000, f"load r1 {LOW - 1}"):
            for wrong in ("adds", "out", "out 007", "end", "load 1 1"):
                self.check(lines(line, wrong), 1)
                self.check(lines(wrong, line), 0)
                self.check(lines("loop 2", line, "end", wrong), 3)
            self.check(lines("loop 2", line), 3)
            self.check(lines(line, "loop 2", "end"), 2)

    def test_in_the_same_line(self):
        self.check("add r16 r01 1", 0)
        self.check("add r1 r16", 0)
        self.check("add 2147483648 1 1", 0)
        self.check(f"loop {HIGH + 1} 1", 0)
        self.check("out r016", 0)
        self.check("out -02147483649", 0)

    def test_behind_too_many_statements_or_instructions(self):
        self.check(lines(*[ADD_LINE] * 13, "adds"), 13)
        self.check(lines(*[ADD_LINE] * 20, "loop 2"), 22)
        self.check(lines("loop 2", *[ADD_LINE] * 13), 15)
        self.check(lines("loop 2", *[ADD_LINE] * 13, "end", "end"), 15)
        self.check(lines("loop r16", ADD_LINE, "loop 2"), 2)

    def test_length_goes_first_of_all(self):
        for text in ("adds\n", "end\n", "loop 2\n", "out r16\n", lines(*[ADD_LINE] * 13)):
            with self.assertRaises(LimitError):
                parse(text + " " * (4001 - len(text)))
            with self.assertRaises(LimitError):
                parse("#" * (4000 - len(text)) + "\n" + text)
        self.check("adds".ljust(4000), 0)

    def check(self, text, line):
        with self.subTest(text=text):
            with self.assertRaises(ParseError) as caught:
                parse(text)
            self.assertEqual(caught.exception.line, line)


if __name__ == "__main__":
    unittest.main()
