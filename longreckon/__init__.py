"""Large whole numbers, told as rows of 64-bit words; the functions are in longreckon.desk."""
