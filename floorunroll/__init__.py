"""The floor unrolled: places of a floor told exactly from a picture of it."""
