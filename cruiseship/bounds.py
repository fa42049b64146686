"""Whether a number is as told."""


def outside(number, least, most):
    return number < least or number > most
