"""Persons, cabins or goods as the bits of one number."""


def as_bits(numbers):
    return sum([1 << number for number in numbers])
