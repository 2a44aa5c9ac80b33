"""Relations between the runs of a program: read, held, made small and tried on mutants."""
