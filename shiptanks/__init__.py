"""Water and waste at sea: how much there is, hour by hour along a ship's way."""
