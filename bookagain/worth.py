"""What an expression is worth."""

MODULUS = 4294967296


def worth_of(expression, variables):
    kind = expression[0]
    if kind == 0:
        return expression[1]
    if kind == 1:
        return variables[expression[1]]
    first = worth_of(expression[1], variables)
    second = worth_of(expression[2], variables)
    if kind == 2:
        return (first + second) % MODULUS
    if kind == 3:
        return max(first - second, 0)
    if kind == 4:
        return first * second % MODULUS
    if kind == 5:
        return 1 if first < second else 0
    return 1 if first == second else 0
