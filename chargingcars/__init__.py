"""PALLETHALL, layer j: charging cars while they stand in the park."""
