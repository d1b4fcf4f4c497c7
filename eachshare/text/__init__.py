"""Houses, wishes, rows and values as texts, and the shell."""
