"""A house with doors: grants, tickets, policies and openings."""
