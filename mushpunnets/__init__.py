"""Punnets: mushrooms packed so many in each, none much wider than another."""
