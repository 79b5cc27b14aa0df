"""The values of expressions."""

MODULUS = 65536


def value_of(expression, known):
    """The value of an expression, with the known values of the variables and of `press`."""
    word = expression[0]
    if word == "number":
        return expression[1]
    if word == "variable":
        return known[expression[1]]
    if word == "press":
        return known[word]
    return _reckoned(word, value_of(expression[1], known), value_of(expression[2], known))


def _reckoned(operator, one, other):
    """The value of an operator with two values."""
    if operator == "+":
        return (one + other) % MODULUS
    if operator == "-":
        return max(0, one - other)
    if operator == "*":
        return one * other % MODULUS
    if operator == "/":
        return one // other if other != 0 else 0
    if operator == "mod":
        return one % other if other != 0 else 0
    if operator == "<":
        return 1 if one < other else 0
    return 1 if one == other else 0
