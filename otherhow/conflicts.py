"""Which tables cannot stand together (point 29)."""

from otherhow.ends import possible
from otherhow.errors import NotAllowed
from otherhow.subsets import least_sets
from otherhow.tables import Data

MOST_TABLES = 5


def conflicts(data):
    """Return the least refuted sets of the data's tables; raises NotAllowed."""
    if len(data.tables) > MOST_TABLES:
        raise NotAllowed(f"there are at most {MOST_TABLES} tables")

    def refuted(chosen):
        tables = [data.tables[index] for index in chosen]
        return possible(Data(data.house, data.sentences, tables))[0] == "none"

    return least_sets(len(data.tables), refuted)
