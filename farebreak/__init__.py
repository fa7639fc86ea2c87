"""Farebreak: journeys priced by parting them."""
