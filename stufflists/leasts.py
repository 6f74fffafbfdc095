"""The LEAST that a making of a label costs, or a paper that shows that there is no making [17]."""

from stufflists.grids import least_corner
from stufflists.makings import check_prices, cost
from stufflists.steps import costs_of, in_fractions, making_by, paper_by, rows_of, wants_of


def least(label, prices):
    """The LEAST of a label for prices."""
    check_prices(label, prices)
    told = least_corner(in_fractions(rows_of(label)), wants_of(label), costs_of(label, prices))
    if told[0] == "never":
        return ("never", paper_by(label, told[1]))
    making = making_by(label, told[1])
    return ("least", cost(label, prices, making), making, paper_by(label, told[2]))
