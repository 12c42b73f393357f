"""Values, their encodings and their digests."""


def encode(value):
    """Return the encoding of a value, a list of integers (point 1)."""
    numbers = []
    # A list of what is still to be encoded takes the place of recursion, so
    # that values may be nested to any depth. Its last item comes next.
    waiting = [value]
    while waiting:
        part = waiting.pop()
        if isinstance(part, int):
            numbers.extend([0, part])
        elif isinstance(part, str):
            numbers.extend([1, len(part)])
            numbers.extend([ord(sign) for sign in part])
        else:
            numbers.extend([2, len(part)])
            waiting.extend(part[::-1])
    return numbers


def digest(rule, value):
    """Return the digest of a value by a rule, an integer (point 2)."""
    base, modulus = rule
    numbers = encode(value)
    result = 1
    for number in numbers:
        result = (result * base + number + 1) % modulus
    return (result * base + len(numbers)) % modulus
