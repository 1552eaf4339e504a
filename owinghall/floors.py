"""Products of a table and a list, and their quotients rounded down: helpers of the other modules."""


def product(row, numbers):
    return sum([one * other for one, other in zip(row, numbers)])


def products(table, numbers):
    return [product(row, numbers) for row in table]


def floored(numbers, divisor):
    return [number // divisor for number in numbers]


def left_over(numbers, divisor):
    return [number % divisor for number in numbers]
