"""Relations between two runs of a program, held against all inputs of a bound."""
