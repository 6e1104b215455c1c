"""Shortring: webs whose long rings are all tied across."""
