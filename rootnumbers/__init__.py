"""Numbers that are roots: exact reckoning with polynomials over the fractions. The calls are in rootnumbers.roots."""
