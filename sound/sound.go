// Package sound examines two rules of a state's consistency, which the layers scenario and check both need.
package sound

import (
	"tollway/api"
	"tollway/batch"
)

// Once reports whether the passages of a result have different IDs, and each has exactly one fate.
func Once(r api.Result) bool {
	seen := map[string]bool{}
	for _, p := range r.Passages {
		if seen[p.ID] || len(batch.Fates(r, p.ID)) != 1 {
			return false
		}
		seen[p.ID] = true
	}
	return true
}

// Recomputed reports whether the result of a state is that of a recomputation.
func Recomputed(s api.State) bool {
	r, e := batch.Finish(s.Config, s.Seen, s.Rejects, s.Parked)
	return e == api.OK && batch.Same(r, s.Result)
}
