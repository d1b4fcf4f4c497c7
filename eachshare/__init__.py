"""One wish for several hands, each of which sees only its own deeds."""
