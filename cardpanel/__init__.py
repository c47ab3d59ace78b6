"""Who gets a card, whatever is on the table."""
