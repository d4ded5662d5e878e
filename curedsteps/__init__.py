"""A part that is cured in a heated mould, minute by minute."""
