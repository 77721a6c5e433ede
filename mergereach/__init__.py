"""Mergereach: which versions three-way merging can ever produce."""
