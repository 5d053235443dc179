"""Fractions: pairs of an upper and a lower whole number, in lowest terms, the lower one above 0."""


def greatest_divisor(first, second):
    while second != 0:
        rest = first % second
        first = second
        second = rest
    return first


def ratio(upper, lower):
    divisor = greatest_divisor(upper, lower)
    return (upper // divisor, lower // divisor)


def whole(number):
    return (number, 1)


def plus(left, right):
    return ratio(left[0] * right[1] + right[0] * left[1], left[1] * right[1])


def minus(left, right):
    return ratio(left[0] * right[1] - right[0] * left[1], left[1] * right[1])


def times(left, number):
    return ratio(left[0] * number, left[1])


def over(left, number):
    return ratio(left[0], left[1] * number)


def at_most(left, right):
    return left[0] * right[1] <= right[0] * left[1]


def lesser(left, right):
    return left if at_most(left, right) else right


def greater(left, right):
    return right if at_most(left, right) else left


def least_of(ratios):
    least = ratios[0]
    for each in ratios:
        least = lesser(least, each)
    return least


def total(ratios):
    summed = whole(0)
    for each in ratios:
        summed = plus(summed, each)
    return summed
