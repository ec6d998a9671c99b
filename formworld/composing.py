"""Products of classes of binary forms, as Gauss has found them, and the group that they are."""

from formworld.checks import check_number
from formworld.errors import Unlike
from formworld.forms import Form
from formworld.grouping import class_orders, class_rows, power_row, powers_of, product_row, united
from formworld.limits import MOST_NUMBER
from formworld.primes import prime_divisors, split_power
from formworld.requirements import require_discriminant, require_form, require_primitive_binary
from formworld.rings import change_to, discriminant_at, leading_of, main_row
from formworld.tables import combined, inverse_change


def composed(form, other):
    """The leading form of the product of both classes."""
    require_composable(form, other)
    return Form(product_row(form.coefficients, other.coefficients))


def power(form, many):
    """The leading form of the power of the class."""
    require_form(form)
    check_number(many, -MOST_NUMBER, MOST_NUMBER)
    require_primitive_binary(form)
    return Form(power_row(form.coefficients, many))


def order_of(form):
    """The least exponent from 1 on with which the power is the main class."""
    require_form(form)
    require_primitive_binary(form)
    row = form.coefficients
    return len(powers_of(row, leading_of(main_row(discriminant_at(row)))))


def square_roots(form):
    """The leading forms of all classes whose square is that of the form, ascending."""
    require_form(form)
    require_primitive_binary(form)
    square = leading_of(form.coefficients)
    rows = class_rows(discriminant_at(square))
    return tuple([Form(row) for row in rows if product_row(row, row) == square])


def composing_tables(form, other):
    """Two tuples that make products of values into values of the leading form of the product."""
    require_composable(form, other)
    row, divisor = united(form.coefficients, other.coefficients)
    tables = united_tables(form.coefficients, other.coefficients, row[1], divisor)
    back = inverse_change(change_to(row, leading_of(row)))
    return tuple([combined(tables, numbers) for numbers in back])


def cyclic_parts(discriminant):
    """The orders of the cyclic parts, each of which divides the next one or is the same."""
    require_discriminant(discriminant)
    orders = class_orders(discriminant)
    parts = []
    for prime in prime_divisors(len(orders)):
        for many in part_counts(orders, prime):
            parts = parts + [1] * (many - len(parts))
            parts = [part * prime if index < many else part for index, part in enumerate(parts)]
    return tuple(parts[::-1])


def require_composable(form, other):
    require_form(form)
    require_form(other)
    require_primitive_binary(form)
    require_primitive_binary(other)
    if discriminant_at(form.coefficients) != discriminant_at(other.coefficients):
        raise Unlike()


def united_tables(row, other, middle, divisor):
    """The two tuples for the form that comes straight out of both, with this middle coefficient.

    Proper changes behind them keep what is asked of the first coefficients.
    """
    first, both, _ = row
    other_first, other_both, _ = other
    last = both * other_both + discriminant_at(row) - middle * (both + other_both)
    return (
        (
            divisor, (other_both - middle) * divisor // (2 * other_first), (both - middle) * divisor // (2 * first),
            last * divisor // (4 * first * other_first),
        ),
        (0, first // divisor, other_first // divisor, (both + other_both) // (2 * divisor)),
    )


def part_counts(orders, prime):
    """How many cyclic parts are divided by the prime, by its square and so on, as long as there are any.

    There are prime ** k times as many classes with an order that divides the next power, k being that count.
    """
    counts = []
    divided = prime
    before = 1
    many = count_dividing(orders, divided)
    while many > before:
        counts.append(split_power(many // before, prime)[0])
        before = many
        divided = divided * prime
        many = count_dividing(orders, divided)
    return counts


def count_dividing(orders, number):
    return len([order for order in orders if number % order == 0])
