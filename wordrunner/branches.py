"""What hangs on a register's sign, on its being 0 or odd: the instructions 40 to 7F."""

from wordrunner.operands import first_value, near_target, op_of, second_value, x_of


def is_so(value, question):
    """Whether a word is below 0 (0), 0 (1), above 0 (2), odd (3)."""
    if question == 0:
        return value >> 63 == 1
    if question == 1:
        return value == 0
    if question == 2:
        return value != 0 and value >> 63 == 0
    return value & 1 == 1


def holds(word, value):
    """The question that the op asks of a value; from 4 on the same four are asked the other way round."""
    question = (op_of(word) >> 1) & 7
    if question >= 4:
        return not is_so(value, question - 4)
    return is_so(value, question)


def run_branch(machine, word):
    if holds(word, machine.value_of(x_of(word))):
        machine.behind = near_target(machine, word)


def run_conditional_set(machine, word):
    if holds(word, first_value(machine, word)):
        machine.give(x_of(word), second_value(machine, word))


def run_zero_or_set(machine, word):
    so = holds(word, first_value(machine, word))
    machine.give(x_of(word), second_value(machine, word) if so else 0)
