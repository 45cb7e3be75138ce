"""Programs of MMIX over 2^20 bytes of memory; wordrunner.desk.answers is what is called."""
