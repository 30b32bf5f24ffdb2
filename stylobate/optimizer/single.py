"""Plans that have at most one row."""


def is_single(plan):
    """Tell whether a plan has at most one row, as far as its operators tell."""
    while plan[0] in ("filter", "project", "distinct"):
        plan = plan[-1]
    form = plan[0]
    if form == "rows":
        return len(plan[2]) <= 1
    if form == "group":
        return not plan[1]
    if form == "top":
        count = plan[3]
        return count is not None and count <= 1
    return False
