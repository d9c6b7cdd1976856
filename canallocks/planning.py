"""The call plan: how to bring boats where they're wanted."""

from canallocks.search import Search
from canallocks.state import IN_POUND
from canallocks.steps import Steps

BY_WATER = 1


def plan(canal, how, wanted):
    """Tell the plan that's before all others, or why there's none to tell."""
    if how > BY_WATER or max(wanted) > len(canal.waters):
        return [-1]
    goals = [(boat, (IN_POUND, number - 1)) for boat, number in enumerate(wanted) if number > 0]
    search = Search(Steps(canal, how == BY_WATER), goals)
    return search.answer(canal.stand())
