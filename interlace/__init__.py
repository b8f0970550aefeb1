"""An interlace artist's desk: panels, strands, weaves, marks, mends."""
