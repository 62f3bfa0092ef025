"""Runs with room for all functions at once."""

from overlayhall.programs import check_program
from overlayhall.runs import Run, check_number


def run(program, number):
    """Calls function 0 with a number: (told, said)."""
    done = plain_run(program, number)
    return (done.told, done.said)


def traced(program, number):
    """The row of functions that the same run enters and goes back to."""
    return plain_run(program, number).row


def plain_run(program, number):
    """The run of a program with a number, when it is over."""
    check_program(program)
    check_number(number)
    done = Run(program)
    done.begin(number)
    return done
