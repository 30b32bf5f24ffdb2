"""Plans beside joins: what conditions that go to a side make of it."""

from stylobate.optimizer.conditions import conjunction


def filtered(plan, conditions):
    """Return the plan, filtered by a list of conditions; itself if the list is empty."""
    if not conditions:
        return plan
    return ("filter", conjunction(conditions), plan)
