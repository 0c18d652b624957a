"""Whether a finding holds of a book."""

from looseleavesdesk.signs import BAR, CARET, EQUAL, GREATER, LESS, LETTER_H, LETTER_O


def finding_holds(finding, lying):
    """Whether the finding, with its ! if it has one, holds of the leaves that lie so."""
    if finding.negated:
        return not plain_holds(finding.sign, finding.told, lying)
    return plain_holds(finding.sign, finding.told, lying)


def plain_holds(sign, told, lying):
    """Whether what the sign says of the leaves or sides told is so."""
    if sign == GREATER:
        return lying.side_places[told[1]] == lying.side_places[told[0]] + 1
    if sign == BAR:
        return face_one_another(told[0], told[1], lying)
    if sign == CARET:
        return lying.is_front(told[0])
    if sign == LETTER_O:
        return lie_together(told, lying)
    if sign == LETTER_H:
        return only_like_sides_meet(told, lying)
    return leaves_hold(sign, told[0], told[1], lying)


def leaves_hold(sign, leaf, other, lying):
    """Whether what = or < or ~ says of the two leaves is so."""
    if sign == EQUAL:
        # 0 stands for being alone both where it is told and as a partner.
        return lying.partners[leaf] == other
    if sign == LESS:
        return lying.leaf_place(leaf) < lying.leaf_place(other)
    return lying.gathering_numbers[leaf] == lying.gathering_numbers[other]


def face_one_another(side, other, lying):
    """Whether one is a back, and the other the front of the leaf directly behind it."""
    first = min(lying.side_places[side], lying.side_places[other])
    last = max(lying.side_places[side], lying.side_places[other])
    return last == first + 1 and first % 2 == 1


def lie_together(leaves, lying):
    """Whether the leaves lie one directly behind another, in whatever order."""
    places = [lying.leaf_place(leaf) for leaf in leaves]
    # Each leaf lies at a place of its own, so only leaves without a gap reach just so far.
    return max(places) - min(places) == len(places) - 1


def only_like_sides_meet(told, lying):
    """Whether of a back and the front directly behind it always both are told, or neither."""
    sides = lying.sides_in_order
    for place in range(1, len(sides) - 1, 2):
        if (sides[place] in told) != (sides[place + 1] in told):
            return False
    return True
