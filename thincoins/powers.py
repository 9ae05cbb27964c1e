"""Products that several files need: powers, and products that fall by one."""


def power_of(base, exponent):
    """The base so many times as a factor; 1 for none."""
    product = 1
    for _ in range(exponent):
        product *= base
    return product


def falling_product(many, factors):
    """many (many - 1) .., so many factors: the ways to lay so many points on unlike things."""
    product = 1
    for less in range(factors):
        product *= many - less
    return product
