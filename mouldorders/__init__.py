"""Family-mould order planning: the minimum number of shots for an order."""
