"""Powers of numbers and of square tables, and what these make of columns."""


def raised(base, power):
    """Give the number to this power, at least 0."""
    result = 1
    for _ in range(power):
        result = result * base
    return result


def raised_modulo(base, power, modulus):
    """Give what the number to this power, at least 0, leaves by the modulus."""
    result = 1 % modulus
    square = base % modulus
    rest = power
    while rest > 0:
        if rest % 2 == 1:
            result = result * square % modulus
        square = square * square % modulus
        rest = rest // 2
    return result


def table_one(size):
    """Give the table with 1 where row and column have the same index and 0 elsewhere."""
    return tuple([tuple([1 if column == row else 0 for column in range(size)]) for row in range(size)])


def table_times(left, right, modulus):
    """Give the product of two square tables of one size, by the modulus."""
    columns = list(zip(*right))
    return tuple([tuple([row_times(row, column, modulus) for column in columns]) for row in left])


def row_times(row, column, modulus):
    """Give the sum of the products place by place, by the modulus."""
    return sum([number * other for number, other in zip(row, column)]) % modulus


def column_times(table, column, modulus):
    """Give what the square table makes of a column, by the modulus."""
    return tuple([row_times(row, column, modulus) for row in table])


def column_plus(column, other, modulus):
    """Give the sum of two columns of one size place by place, by the modulus."""
    return tuple([(number + more) % modulus for number, more in zip(column, other)])


def table_raised(table, power, modulus):
    """Give the square table to this power, at least 0, by the modulus."""
    result = table_one(len(table))
    square = table
    rest = power
    while rest > 0:
        if rest % 2 == 1:
            result = table_times(result, square, modulus)
        square = table_times(square, square, modulus)
        rest = rest // 2
    return result
