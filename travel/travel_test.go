package travel

import (
	"testing"

	"tollway/api"
)

func TestLeast(t *testing.T) {
	n := api.Network{Points: []api.Point{{Name: "a", Kind: 1}, {Name: "b", Kind: 1}, {Name: "c", Kind: 1}}, Links: []api.Link{{From: "a", To: "b", Min: 7, Max: 9}, {From: "b", To: "c", Min: 700, Max: 900}}}
	for ends, want := range map[[2]string]int{{"a", "a"}: 60, {"a", "b"}: 7, {"a", "c"}: 707, {"b", "a"}: 300, {"a", "x"}: 300, {"x", "x"}: 60} {
		if s := Least(n, ends[0], ends[1]); s != want {
			t.Error(ends, s)
		}
	}
}
