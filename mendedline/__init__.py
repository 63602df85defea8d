"""Two machines in a row that break and are mended, with room for some pieces between."""
