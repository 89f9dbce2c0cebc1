"""Texts of programs, written and read back."""

from tickworks.errors import BadText
from tickworks.lines import read_line
from tickworks.nodes import Program
from tickworks.shapes import parts_of
from tickworks.texts import text_of, text_of_value

# Which lines may stand behind a line; "" is ahead of all lines.
BEHIND = {
    "": ("node",),
    "node": ("in",),
    "in": ("in", "out"),
    "out": ("equation",),
    "equation": ("equation", "node"),
}


def part_words(role, part):
    """The list of what is written of one part of a right side."""
    if role == "kind":
        return [text_of(part)]
    if role == "results":
        return [text_of_value(value) for value in part] + [":"]
    if role == "streams":
        return list(part)
    if role == "again":
        return [] if part is None else [":", part[0], part[1]]
    return [text_of_value(part)]


def equation_line(names, right):
    """The line of an equation."""
    words = [*names, "=", right[0]]
    for role, part in parts_of(right):
        words.extend(part_words(role, part))
    return " ".join(words)


def node_lines(node):
    """The list of the lines of a node."""
    lines = ["node " + node[0]]
    lines.extend(["in " + word + " " + text_of(kind) for word, kind in node[1]])
    lines.append("out " + " ".join(node[2]))
    lines.extend([equation_line(names, right) for names, right in node[3]])
    return lines


def program_text(program):
    """The text of a program."""
    lines = [line for node in program.nodes() for line in node_lines(node)]
    return "".join([line + "\n" for line in lines])


def read_lines(text):
    """The list of what the lines of a text tell, in pairs as read_line tells them."""
    lines = text.split("\n")
    told = []
    last = ""
    for number, line in enumerate(lines[:-1]):
        word, content = read_line(line, number)
        if word not in BEHIND[last]:
            raise BadText(number)
        told.append((word, content))
        last = word
    # What stands behind the last line feed is a line without one, if it is not empty.
    if lines[-1] != "" or last != "equation":
        raise BadText(len(lines) - 1)
    return told


def read_program(text):
    """The program that any value as text tells."""
    if not isinstance(text, str):
        raise BadText(0)
    nodes = []
    for word, content in read_lines(text):
        if word == "node":
            nodes.append((content, (), (), ()))
            continue
        name, inputs, outputs, equations = nodes.pop()
        if word == "in":
            inputs = inputs + (content,)
        elif word == "out":
            outputs = content
        else:
            equations = equations + (content,)
        nodes.append((name, inputs, outputs, equations))
    return Program(nodes)
