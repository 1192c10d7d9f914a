"""Values in parts: a value is a tuple of so many parts, and how many of these parts are one."""


# The greatest number that goes into both; the sign of either does not matter, and nought is gone into by all.
def common_divisor(first, second):
    greater = abs(first)
    smaller = abs(second)
    while smaller > 0:
        rest = greater % smaller
        greater = smaller
        smaller = rest
    return greater


def least_parts(value):
    divisor = common_divisor(value[0], value[1])
    return (value[0] // divisor, value[1] // divisor)


# The least such number, and not the product, so that many values with the same parts don't make it grow.
def common_one(values):
    common = 1
    for value in values:
        common = common // common_divisor(common, value[1]) * value[1]
    return common


# How many parts each value has where `common` parts are one; each value's own parts must go into `common`.
def in_parts(values, common):
    return [value[0] * (common // value[1]) for value in values]
