package travel

import (
	"strings"
	"testing"

	"tollway/api"
)

func network() api.Network {
	return api.Network{
		Points: []api.Point{{Name: "a", Kind: 1}, {Name: "b", Kind: 1}, {Name: "c", Kind: 1}},
		Links:  []api.Link{{From: "a", To: "b", Min: 7, Max: 9}, {From: "b", To: "c", Min: 700, Max: 900}, {From: "a", To: "c", Min: 720, Max: 800}},
	}
}

func TestLeast(t *testing.T) {
	for ends, want := range map[[2]string]int{{"a", "a"}: 60, {"a", "b"}: 7, {"a", "c"}: 707, {"b", "a"}: 300, {"a", "x"}: 300, {"x", "x"}: 60} {
		if s := Least(network(), ends[0], ends[1]); s != want {
			t.Error(ends, s)
		}
	}
}

func TestPaths(t *testing.T) {
	l, e := Paths(network(), "a", "c")
	if len(l) != 2 || l[0].Least != 707 || l[0].Greatest != 909 || l[1].Least != 720 || l[1].Greatest != 800 || e != api.OK {
		t.Error(l, int(e))
	}
	for seconds, want := range map[int]string{706: "", 707: "a b c", 719: "a b c", 720: "a b c,a c", 800: "a b c,a c", 801: "a b c", 909: "a b c", 910: "", -1: ""} {
		var got []string
		for _, p := range Fitting(l, seconds) {
			got = append(got, strings.Join(p, " "))
		}
		if strings.Join(got, ",") != want {
			t.Error(seconds, got)
		}
	}
	if l, e := Paths(network(), "a", "x"); len(l) != 0 || e != api.ErrPoint {
		t.Error(l, int(e))
	}
	if l, e := Paths(network(), "c", "a"); len(l) != 0 || e != api.OK {
		t.Error(l, int(e))
	}
}
