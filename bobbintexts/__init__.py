"""Bobbin lace: texts of stitches, rows and repeats. The calls are in bobbintexts.lace."""
