"""Runners by labels: jobs that ask labels, served by machines that have them."""
