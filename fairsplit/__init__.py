"""Fairsplit: goods divided by bids."""
