"""A line made shorter: strings that have gone by are sent as their numbers."""
