"""Films in the Matroska form, read strictly; the calls are in strictfilm.films."""
