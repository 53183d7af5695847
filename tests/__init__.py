"""Tests of fairsplit."""
