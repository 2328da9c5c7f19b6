"""The cheapest tickets: zones, products, journeys, and what they cost together."""
