"""Polynomials in t: tuples or lists of their integer factors, from t^0 on."""

from math import gcd


def trimmed(factors):
    """Return the tuple of the factors without the zeros at the end."""
    many = len(factors)
    while many > 0 and factors[many - 1] == 0:
        many -= 1
    return tuple(factors[:many])


def factor_at(factors, k):
    """Return the factor of t^k, k from 0 on."""
    return factors[k] if k < len(factors) else 0


def negated(factors):
    """Return the polynomial with each factor's sign turned."""
    return tuple([-factor for factor in factors])


def added(one, other):
    """Return the sum of two polynomials."""
    many = max(len(one), len(other))
    return trimmed([factor_at(one, k) + factor_at(other, k) for k in range(many)])


def multiplied(one, other):
    """Return the product of two polynomials."""
    factors = [0 for _ in range(len(one) + len(other))]
    for j, first in enumerate(one):
        for k, second in enumerate(other):
            factors[j + k] = factors[j + k] + first * second
    return trimmed(factors)


def divided(factors, divisor):
    """Return a quotient and the rest, as point 9 tells: what is left has small factors from the divisor's degree on.

    The divisor's last factor is above 0. If it divides the polynomial, the rest is ().
    """
    rest = list(factors)
    degree = len(divisor) - 1
    quotient = [0 for _ in factors]
    for k in reversed(range(degree, len(factors))):
        times = rest[k] // divisor[degree]
        quotient[k - degree] = times
        for j, factor in enumerate(divisor):
            rest[k - degree + j] = rest[k - degree + j] - times * factor
    return (trimmed(quotient), trimmed(rest))


def common_divisor(factors):
    """Return the greatest common divisor of all factors, 0 if there is none but zeros."""
    divisor = 0
    for factor in factors:
        divisor = gcd(divisor, factor)
    return divisor


def sign_of(factor, first):
    """Return what stands ahead of a term: its sign, with spaces unless it is the first one."""
    if first:
        return "-" if factor < 0 else ""
    return " - " if factor < 0 else " + "


def term_of(factor, k):
    """Return the text of a term, without the factor's sign."""
    many = abs(factor)
    if k == 0:
        return str(many)
    power = "t" if k == 1 else f"t^{k}"
    return power if many == 1 else f"{many}*{power}"


def text_of(factors):
    """Return the text of a polynomial, its terms from the greatest degree down."""
    text = ""
    for k in reversed(range(len(factors))):
        factor = factors[k]
        if factor != 0:
            sign = sign_of(factor, text == "")
            text = f"{text}{sign}{term_of(factor, k)}"
    return text if text != "" else "0"
