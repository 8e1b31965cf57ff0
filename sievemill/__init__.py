"""Closed-circuit grinding: a roller mill, its breakage matrix and its sieve, in exact fractions."""
