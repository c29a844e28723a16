"""Whether papers about programs are right; told by adding up."""

from planless.checks import is_number, is_row, is_weight, is_weights
from planless.errors import BadProgram
from planless.numbers import precedes, product_sum
from planless.programs import Best, NoPoint, Program, Unbounded


def does_hold(condition, row, right):
    """Tell whether a row has the sum that a condition with this right asks for."""
    coefficients, word, _ = condition
    total = product_sum(coefficients, row)
    return total == right if word == "just" else not precedes(total, right)


def is_fitting(program, point):
    """Tell whether any value is a point that fits."""
    if not is_weights(point, len(program.costs)):
        return False
    return all([does_hold(condition, point, condition[2]) for condition in program.conditions])


def is_direction(program, value):
    """Tell whether any value is a direction that leads from each point to ever lower costs."""
    if not is_weights(value, len(program.costs)):
        return False
    if not all([does_hold(condition, value, 0) for condition in program.conditions]):
        return False
    return precedes(product_sum(program.costs, value), 0)


def are_multipliers(program, value):
    """Tell whether any value is a list of multipliers."""
    if not is_row(value, len(program.conditions)):
        return False
    return all([condition[1] == "just" or is_weight(number)
                for condition, number in zip(program.conditions, value)])


def are_columns_within(program, multipliers, bounds):
    """Tell whether no column of the multipliers is above its bound."""
    columns = [product_sum([condition[0][at] for condition in program.conditions], multipliers)
               for at in range(len(bounds))]
    return not any([precedes(bound, column) for bound, column in zip(bounds, columns)])


def sum_by(program, multipliers):
    """Return the sum of the multipliers."""
    return product_sum([condition[2] for condition in program.conditions], multipliers)


def shows_best(program, told):
    """Tell whether a Best is right."""
    if not is_number(told.value) or not is_fitting(program, told.point):
        return False
    if not are_multipliers(program, told.multipliers):
        return False
    if product_sum(program.costs, told.point) != told.value or sum_by(program, told.multipliers) != told.value:
        return False
    return are_columns_within(program, told.multipliers, program.costs)


def shows_no_point(program, told):
    """Tell whether a NoPoint is right."""
    if not are_multipliers(program, told.multipliers) or not precedes(0, sum_by(program, told.multipliers)):
        return False
    return are_columns_within(program, told.multipliers, [0 for _ in program.costs])


def shows_solved(program, value):
    """Tell whether the value is a right answer to the program."""
    if not isinstance(program, Program):
        raise BadProgram("program")
    name = value.__class__.__name__
    # Only what these very classes made is such a paper, not what a class below them made.
    if isinstance(value, Best) and name == "Best":
        return shows_best(program, value)
    if isinstance(value, NoPoint) and name == "NoPoint":
        return shows_no_point(program, value)
    if isinstance(value, Unbounded) and name == "Unbounded":
        return is_fitting(program, value.point) and is_direction(program, value.direction)
    return False
