"""What the signs tell of two numbers."""


def worth(sign, y, z):
    """What a sign tells of two whole numbers."""
    if sign == "plus":
        return y + z
    if sign == "minus":
        return y - z
    if sign == "times":
        return y * z
    if sign == "over":
        return 0 if z == 0 else y // z
    if sign == "rest":
        return y if z == 0 else y - z * (y // z)
    if sign == "less":
        return 1 if y < z else 0
    return 1 if y == z else 0
