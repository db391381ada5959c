"""Fractions as two whole numbers."""


def lowest_terms(numerator, denominator):
    """Divide out what a numerator of 0 or more and a denominator above 0 have in common."""
    common = numerator
    rest = denominator
    while rest > 0:
        remainder = common % rest
        common = rest
        rest = remainder
    return (numerator // common, denominator // common)
