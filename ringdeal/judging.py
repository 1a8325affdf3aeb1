"""The judge: whether rows are the deal."""

from ringdeal.dealing import deal_of


# Names and keepers have one deal alone, so rows are it just where they are the same as it.
def is_deal(plan, keepers, names, rows):
    return rows == deal_of(plan, keepers, names)
