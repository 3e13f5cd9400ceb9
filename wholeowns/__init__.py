"""Who owns whom: people and companies that hold parts of one another."""
