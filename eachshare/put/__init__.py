"""What hands can do together, and what each of them can do alone."""
