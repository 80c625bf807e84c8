"""Firstbreach: what the promises of a scheduled house rest on, and whose breach came first."""
