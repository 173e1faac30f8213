"""Cutlinked: forests under links and cuts, and what each deed costs."""
