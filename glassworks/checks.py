"""The refusals, and what several calls share."""

# One number is refused with for several causes, so each is named for what they have in common.
ABSENT = -2
EMPTY = -6
TOO_LITTLE = -12
UNFIT = -13
NOT_YET = -16
ALREADY = -17
NOT_AS_TOLD = -22
FULL = -28
NEVER = -33
TOO_MUCH = -62
COOLING = -71
TOO_LATE = -75


def within(number, least, most):
    return least <= number and number <= most


def is_there(things, number):
    return number < len(things)


def many_as_bits(numbers):
    bits = 0
    for number in numbers:
        bits |= 1 << number
    return [len(numbers), bits]
