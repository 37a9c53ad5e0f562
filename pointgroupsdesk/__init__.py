"""Groups of permutations, told by what makes them."""
