"""Faces of programs, and what they must be to stand for one another."""

from tickworks.errors import NotSwift, OtherFace
from tickworks.nodes import Program
from tickworks.orders import is_swift


def face_of(program):
    """A program's inputs with their types, and its outputs with theirs, in their order."""
    main = program.main()
    kinds = dict(program.streams_at(main[0]))
    return (main[1], tuple([(output, kinds[output]) for output in main[2]]))


def do_fit(one, other):
    """Whether two programs have one face."""
    return face_of(one) == face_of(other)


def check_face(program, other):
    """OtherFace for a program of another face."""
    if not do_fit(program, other):
        raise OtherFace()


def check_swift(program):
    """NotSwift for a program that is not swift."""
    if not is_swift(program):
        raise NotSwift()


def swift_program(nodes):
    """The program of any value as nodes; the errors of Program, then NotSwift."""
    program = Program(nodes)
    check_swift(program)
    return program
