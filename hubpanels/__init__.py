"""Panels of a tabulating room's machines; hubpanels.panels holds the calls."""
