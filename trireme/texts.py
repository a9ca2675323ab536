"""The text of a program: how it is read and printed (points 3, 7 and 8)."""

from trireme.errors import LimitError, ParseError
from trireme.forms import FORMS
from trireme.plain import HIGHEST, LOWEST, REGISTERS

MOST_SIGNS = 4000
MOST_STATEMENTS = 12
MOST_INSTRUCTIONS = 12


def parse(text):
    """Return the program that a text tells."""
    if len(text) > MOST_SIGNS:
        raise LimitError("the text is too long")
    rows = [words_of(line) for line in text.split("\n")]
    # The forms of all lines come first: a ParseError anywhere goes ahead of
    # every LimitError.
    check_forms(rows)
    program = build([words for words in rows if words])
    check_sizes(program)
    return program


def words_of(line):
    """Return the words of a line, without its comment."""
    return [word for word in line.split("#")[0].split(" ") if word]


def check_forms(rows):
    """Raise a ParseError for the first line that has not the right form."""
    # The number of instructions in the loop that is open, None outside.
    inside = None
    for line, words in enumerate(rows):
        if not words:
            continue
        if not has_form(words) or not may_stand(words[0], inside):
            raise ParseError(line)
        if words[0] == "loop":
            inside = 0
        elif words[0] == "end":
            inside = None
        elif inside is not None:
            inside += 1
    if inside is not None:
        raise ParseError(len(rows))


def may_stand(word, inside):
    """Tell whether a line may begin so, behind so many lines of a loop."""
    if word == "loop":
        return inside is None
    if word == "end":
        return inside is not None and inside > 0
    return True


def has_form(words):
    """Tell whether the words of a line are those of the language."""
    form = form_of(words[0])
    if form is None or len(words) != len(form) + 1:
        return False
    for part, word in zip(form, words[1:]):
        if not is_written(part, word):
            return False
    return True


def form_of(word):
    """Return the form of what stands behind this first word, None if unknown."""
    if word == "loop":
        return ("operand",)
    if word == "end":
        return ()
    return FORMS.get(word)


def is_written(part, word):
    """Tell whether a word may stand as this part of a line."""
    if is_register(word):
        return True
    return part == "operand" and is_integer(word)


def is_register(word):
    """Tell whether a word is written as a register."""
    return word.startswith("r") and is_natural(word[1:])


def is_integer(word):
    """Tell whether a word is written as an integer."""
    if word.startswith("-"):
        return word != "-0" and is_natural(word[1:])
    return is_natural(word)


def is_natural(word):
    """Tell whether a word is decimal digits without leading zeros."""
    # Digits beyond ASCII are digits for Python, but not for the language.
    if not word.isascii() or not word.isdigit():
        return False
    return word == "0" or not word.startswith("0")


def build(rows):
    """Return the program of rows of words whose forms are right."""
    program = []
    turns = None
    body = []
    for words in rows:
        if words[0] == "loop":
            turns = read_operand(words[1])
        elif words[0] == "end":
            program.append(("loop", turns, tuple(body)))
            turns = None
            body = []
        elif turns is not None:
            body.append(read_instruction(words))
        else:
            program.append(read_instruction(words))
    return tuple(program)


def read_instruction(words):
    """Return the instruction that the words of a line tell."""
    instruction = [words[0]]
    for part, word in zip(FORMS[words[0]], words[1:]):
        operand = read_operand(word)
        instruction.append(operand[1] if part == "target" else operand)
    return tuple(instruction)


def read_operand(word):
    """Return the operand that a word tells."""
    if word.startswith("r"):
        return "reg", read_number(word[1:], 0, REGISTERS - 1)
    return "int", read_number(word, LOWEST, HIGHEST)


def read_number(word, least, greatest):
    """Return the number that a word tells, if it is within its limits."""
    # So long a word is out of range; its digits may be too many for int.
    if len(word) > len(str(LOWEST)):
        raise LimitError("a number is out of range")
    number = int(word)
    if number < least or number > greatest:
        raise LimitError("a number is out of range")
    return number


def check_sizes(program):
    """Raise a LimitError if a program, or a loop's body, is too long."""
    if len(program) > MOST_STATEMENTS:
        raise LimitError("there are too many statements")
    for statement in program:
        if statement[0] == "loop" and len(statement[2]) > MOST_INSTRUCTIONS:
            raise LimitError("a loop has too many instructions")


def print_program(program):
    """Return the text of a program."""
    lines = []
    for statement in program:
        if statement[0] == "loop":
            lines.extend(print_loop(statement[1], statement[2]))
        else:
            lines.append(print_instruction(statement))
    return "".join([line + "\n" for line in lines])


def print_loop(turns, body):
    """Return the lines of a loop."""
    inner = ["  " + print_instruction(instruction) for instruction in body]
    return ["loop " + print_operand(turns)] + inner + ["end"]


def print_instruction(instruction):
    """Return the line of an instruction."""
    words = [instruction[0]]
    for part, field in zip(FORMS[instruction[0]], instruction[1:]):
        operand = ("reg", field) if part == "target" else field
        words.append(print_operand(operand))
    return " ".join(words)


def print_operand(operand):
    """Return the word of an operand."""
    kind, number = operand
    return f"r{number}" if kind == "reg" else str(number)
