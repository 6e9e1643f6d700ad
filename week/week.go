// Package week validates weekly windows, which several layers need.
package week

import "tollway/api"

const (
	allDays = 127  // the bits of all days
	minutes = 1440 // of a day
)

// Valid reports whether a window is valid.
func Valid(w api.Window) bool {
	return 1 <= w.Days && w.Days <= allDays && 0 <= w.From && w.From < w.To && w.To <= minutes
}
