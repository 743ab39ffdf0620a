"""Words as even as can be: the calls are in evenwords.desk."""
