"""Programs of linear conditions, and their answers."""

from planless.checks import is_list, is_number, is_numbers, is_row
from planless.errors import BadProgram, TooMany
from planless.numbers import number_text, product_sum, row_text
from planless.papers import Denial, Paper, fixed
from planless.readings import Reading
from planless.simplex import answer_to

MOST_COSTS = 60
MOST_CONDITIONS = 60
WORDS = ("least", "just")


def is_condition(value, many):
    """Tell whether the value is a condition for so many costs."""
    if not is_list(value) or len(value) != 3:
        return False
    coefficients, word, right = value
    return is_row(coefficients, many) and isinstance(word, str) and word in WORDS and is_number(right)


def condition_text(condition):
    """Return the text of a condition."""
    coefficients, word, right = condition
    return f"/ {row_text(coefficients)} {word} {number_text(right)}"


def costs_read(reading):
    """Take costs from a text."""
    costs = [reading.take_number()]
    while len(costs) < MOST_COSTS and not reading.is_over() and reading.here() != "/":
        costs.append(reading.take_number())
    return costs


def condition_read(reading, many):
    """Take a condition for so many costs from a text."""
    reading.take_word(("/",))
    coefficients = [reading.take_number() for _ in range(many)]
    word = reading.take_word(WORDS)
    return coefficients, word, reading.take_number()


class Program:
    """Costs, and conditions under which a point is to cost the least."""

    def __init__(self, costs, conditions):
        if not is_numbers(costs) or len(costs) == 0:
            raise BadProgram("costs")
        if not is_list(conditions) or not all([is_condition(value, len(costs)) for value in conditions]):
            raise BadProgram("conditions")
        if len(costs) > MOST_COSTS:
            raise TooMany("costs", MOST_COSTS)
        if len(conditions) > MOST_CONDITIONS:
            raise TooMany("conditions", MOST_CONDITIONS)
        self.costs = fixed(costs)
        self.conditions = fixed(conditions)

    def __eq__(self, other):
        return isinstance(other, Program) and (self.costs, self.conditions) == (other.costs, other.conditions)

    def __str__(self):
        return " ".join([row_text(self.costs), *[condition_text(condition) for condition in self.conditions]])

    @staticmethod
    def read(text):
        """Return the program whose text this is."""
        reading = Reading(text)
        costs = costs_read(reading)
        conditions = []
        while len(conditions) < MOST_CONDITIONS and not reading.is_over():
            conditions.append(condition_read(reading, len(costs)))
        reading.check_end()
        return Program(costs, conditions)


class Best(Paper):
    """The point fits, and no point that fits costs less than the value."""

    def __init__(self, value, point, multipliers):
        Paper.__init__(self, "best", value, point, multipliers)
        self.value, self.point, self.multipliers = self.parts


class NoPoint(Denial):
    """No point fits."""

    def __init__(self, multipliers):
        Denial.__init__(self, "nopoint", multipliers)
        self.multipliers = self.parts[0]


class Unbounded(Denial):
    """The point fits, and from it the direction leads to ever lower costs."""

    def __init__(self, point, direction):
        Denial.__init__(self, "unbounded", point, direction)
        self.point, self.direction = self.parts


def solved(program):
    """Return the answer to a program: a Best, or a NoPoint, or an Unbounded."""
    if not isinstance(program, Program):
        raise BadProgram("program")
    word, parts = answer_to(program.costs, program.conditions)
    if word == "nopoint":
        return NoPoint(parts[0])
    if word == "unbounded":
        return Unbounded(parts[0], parts[1])
    return Best(product_sum(program.costs, parts[0]), parts[0], parts[1])
