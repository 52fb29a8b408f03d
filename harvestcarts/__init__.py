"""Harvestcarts: fields that are harvested by carts."""
