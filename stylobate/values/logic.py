"""Three-valued logic: whatever is not a boolean is unknown."""


def negated(value):
    """Return the value of not."""
    if value is True:
        return False
    if value is False:
        return True
    return None


def both(first, second):
    """Return the value of and."""
    if first is False or second is False:
        return False
    if first is True and second is True:
        return True
    return None


def either(first, second):
    """Return the value of or."""
    if first is True or second is True:
        return True
    if first is False and second is False:
        return False
    return None
