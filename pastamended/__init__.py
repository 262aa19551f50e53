"""A relational database in which every row has a valid time and a known time."""
