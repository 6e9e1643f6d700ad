// Package source orders and names the sources of passages, which several layers need.
package source

import (
	"cmp"

	"tollway/api"
	"tollway/text"
)

// Compare compares two sources by Device and then by Seq.
func Compare(a, b api.Source) int {
	return cmp.Or(cmp.Compare(a.Device, b.Device), cmp.Compare(a.Seq, b.Seq))
}

// Name returns the Device, a point and the Seq of a source.
func Name(s api.Source) string { return s.Device + "." + text.Format(s.Seq) }
