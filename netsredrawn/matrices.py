"""Tables of integers as matrices, and great powers of them, modulo a number."""


def vector_led(matrix, vector, modulus):
    """The matrix times a column."""
    return [sum([row[at] * vector[at] for at in range(len(vector))]) % modulus for row in matrix]


def matrix_product(left, right, modulus):
    """One matrix times another one."""
    columns = [[row[at] for row in right] for at in range(len(right[0]))]
    return [[sum([one * other for one, other in zip(row, column)]) % modulus for column in columns] for row in left]


def led_often(matrix, vector, times, modulus):
    """The column to which a square matrix leads a column, done so many times."""
    vector = [each % modulus for each in vector]
    while times > 0:
        if times & 1:
            vector = vector_led(matrix, vector, modulus)
        times = times >> 1
        if times > 0:
            matrix = matrix_product(matrix, matrix, modulus)
    return vector


def number_power(number, times, modulus):
    """The power of a number."""
    told = 1 % modulus
    number = number % modulus
    while times > 0:
        if times & 1:
            told = told * number % modulus
        number = number * number % modulus
        times = times >> 1
    return told
