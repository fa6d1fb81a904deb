"""The checker: which certificates it accepts for which claims, whoever wrote them."""

from wallwalks.checkforms import are_parts
from wallwalks.checkrooms import ROOM_CLAIMS
from wallwalks.checkrows import Ground
from wallwalks.checkturns import TURN_CLAIMS
from wallwalks.checkwalls import SIDE_CLAIMS
from wallwalks.checkwords import WORD_CLAIMS
from wallwalks.tables import ties_of_text


def accepts(claim, certificate):
    """Whether the claim is one for the checker, and the certificate one for it."""
    if not isinstance(claim, tuple) or len(claim) < 2 or not isinstance(claim[0], str):
        return False
    ties = ties_of_text(claim[1])
    if ties is None:
        return False
    ground = Ground(ties)
    parts = claim[2:]
    for name, forms, fits in WORD_CLAIMS + SIDE_CLAIMS + ROOM_CLAIMS + TURN_CLAIMS:
        if name == claim[0]:
            return are_parts(ground, forms, parts) and fits(ground, certificate, parts)
    return False
