"""Programs from their texts, and the one form of a program's text."""

from heappieces.programs import ASSIGN, ELSE, END, FIELDS, FREE, IF, NEW, READ, WHILE, WRITE, Line, Program
from heappieces.reading import Reader
from heappieces.tokens import bytes_of, read_tokens

MOST_NAMES = 6
DEEPEST_LEVEL = 6


def read_program(text):
    reader = Reader(read_tokens(text), [])
    read_names(reader)
    lines = []
    # The numbers of the lines whose blocks are open: as many as the level here.
    opened = []
    while opened != [] or not reader.is_at_end():
        read_line(reader, lines, opened)
    return Program(reader.names, lines)


def read_names(reader):
    reader.want(("vars",))
    sign = ","
    while sign == ",":
        reader.want_room(reader.names, MOST_NAMES)
        reader.names.append(reader.want_new_name())
        sign = reader.want((",", ";"))


def read_line(reader, lines, opened):
    if reader.sees("}") and opened != []:
        close_block(reader, lines, opened)
    elif reader.sees("if") or reader.sees("while"):
        open_block(reader, lines, opened)
    elif reader.sees("free"):
        lines.append(read_free(reader))
    else:
        lines.append(read_change(reader))


def read_free(reader):
    reader.want(("free",))
    name = reader.want_known_name()
    reader.want((";",))
    return Line(FREE, name)


def read_change(reader):
    name = reader.want_known_name()
    if reader.want(("=", ".")) == ".":
        field = reader.want(FIELDS)
        reader.want(("=",))
        line = Line(WRITE, name, field, reader.want_value())
    elif reader.sees("new"):
        reader.want(("new",))
        line = Line(NEW, name)
    else:
        line = read_assigned(reader, name)
    reader.want((";",))
    return line


def read_assigned(reader, name):
    value = reader.want_value()
    if value == "0" or not reader.sees("."):
        return Line(ASSIGN, name, "", value)
    reader.want((".",))
    return Line(READ, name, reader.want(FIELDS), value)


def open_block(reader, lines, opened):
    reader.want_room(opened, DEEPEST_LEVEL)
    kind = reader.want((IF, WHILE))
    condition = reader.want_condition()
    reader.want(("{",))
    opened.append(len(lines))
    lines.append(Line(kind, condition[0], condition[1], condition[2]))


def close_block(reader, lines, opened):
    reader.want(("}",))
    start = opened.pop()
    if lines[start].kind == IF and reader.sees("else"):
        open_second_block(reader, lines, opened, start)
    else:
        end_statement(lines, start)


def open_second_block(reader, lines, opened, start):
    reader.want(("else",))
    reader.want(("{",))
    opened.append(len(lines))
    lines.append(Line(ELSE))
    lines[start].target = len(lines)


def end_statement(lines, start):
    opener = lines[start]
    # An empty second block is as none: the end takes the place of its line,
    # so the target of the if, which is the line behind that, stays right.
    if opener.kind == ELSE and start == len(lines) - 1:
        lines.pop()
    end = Line(END)
    lines.append(end)
    opener.target = len(lines)
    end.target = start if opener.kind == WHILE else len(lines)


def program_form(program):
    if program.names == []:
        return []
    rows = ["vars " + ", ".join(program.names) + ";"]
    level = 0
    for line in program.lines:
        if line.kind in (ELSE, END):
            level -= 1
        rows.append("  " * level + line_form(line))
        if line.kind in (IF, WHILE, ELSE):
            level += 1
    return bytes_of("".join([row + "\n" for row in rows]))


def line_form(line):
    if line.kind == ASSIGN:
        return line.first + " = " + line.second + ";"
    if line.kind == READ:
        return line.first + " = " + line.second + "." + line.detail + ";"
    if line.kind == WRITE:
        return line.first + "." + line.detail + " = " + line.second + ";"
    if line.kind == NEW:
        return line.first + " = new;"
    if line.kind == FREE:
        return "free " + line.first + ";"
    if line.kind == ELSE:
        return "} else {"
    if line.kind == END:
        return "}"
    return line.kind + " " + line.first + " " + line.detail + " " + line.second + " {"
