"""Family-mould order planning: the minimum number of shots and prices that bound it."""
