// Package integer reads integers of any size, where text.Number is limited to MaxNumber.
package integer

import (
	"strconv"

	"tollway/api"
	"tollway/text"
)

// Parse returns the integer whose textual form is s, and whether there is one. An integer that no int can hold becomes the nearest int.
func Parse(s string) (int, bool) {
	n, e := text.Number(s)
	if e == api.ErrRange {
		n, _ = strconv.Atoi(s)
	}
	return n, e != api.ErrForm
}
