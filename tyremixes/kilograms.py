"""Whole kilograms that come nearest to a recipe's parts."""


def whole_kilograms(parts, kilograms):
    """How many kilograms of each material make so many in all."""
    all_parts = sum(parts)
    shares = [kilograms * part // all_parts for part in parts]
    remainders = [kilograms * part % all_parts for part in parts]
    # Alike remainders stay in their order when sorted, so the lesser number comes first.
    greatest_first = sorted(range(len(parts)), key=lambda place: -remainders[place])
    # Fewer are lacking than there are remainders above 0, so a material with no parts gets none.
    lacking = kilograms - sum(shares)
    for place in greatest_first[:lacking]:
        shares[place] += 1
    return shares
