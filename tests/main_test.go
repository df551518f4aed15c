package tests

import (
	"os"
	"runtime/debug"
	"testing"
)

// TestMain lets memory be collected seldom: the drawn tests make much of it and keep little, and hinder each other otherwise.
func TestMain(m *testing.M) {
	debug.SetGCPercent(800)
	os.Exit(m.Run())
}
