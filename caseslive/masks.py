"""Sets of numbers as integers: a number is in the set if the bit of this number is 1."""


def has_number(mask, number):
    """Whether the number is in the set."""
    return ((mask >> number) & 1) == 1


def numbers_of(mask):
    """The numbers of the set, an ascending tuple."""
    return tuple([number for number in range(mask.bit_length()) if has_number(mask, number)])


def is_within(part, whole):
    """Whether the first set is a subset of the second one, perhaps the same."""
    return (part & whole) == part


def least_of(masks):
    """The sets no proper subset of which is among them."""
    return [mask for mask in masks
            if not any([part != mask and is_within(part, mask) for part in masks])]


def greatest_of(masks):
    """The sets that are no proper subset of another one among them."""
    return [mask for mask in masks
            if not any([whole != mask and is_within(mask, whole) for whole in masks])]


def as_tuples(masks):
    """The sets as ascending tuples of numbers, in ascending order of the tuples."""
    return sorted([numbers_of(mask) for mask in masks])
