"""Small numbers kept hidden: what can be reckoned of the hidden counts of a table."""
