"""What several calls refuse in the same way; a call makes its checks in the order in which it tells its refusals."""

from mixdesks.refusals import Missing, Unfit


def check_node(desk, i):
    if i >= len(desk.kinds):
        raise Missing()


# A node that there isn't passes: that is another refusal, which some calls tell later than this one.
def check_kind(desk, i, kinds):
    if i < len(desk.kinds) and desk.kinds[i] not in kinds:
        raise Unfit()
