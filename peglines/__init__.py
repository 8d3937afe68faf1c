"""Ways as strings between marks. The calls stand in peglines.ways."""
