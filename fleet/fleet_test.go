package fleet

import (
	"testing"

	"tollway/api"
)

func TestDivide(t *testing.T) {
	l := []api.Passage{{ID: "1", Plate: "AB"}, {ID: "2", Tag: "T", Plate: "AB"}, {ID: "3", Tag: "U", Plate: "CD"}, {ID: "4", Plate: "CD"}, {ID: "5", Tag: "T", Plate: "CD"}, {ID: "6"}, {ID: "7", Plate: "EF"}, {ID: "8", Tag: "U", Plate: "CD"}}
	got := map[string]string{}
	for v, ps := range Divide(l) {
		for _, p := range ps {
			got[v] += p.ID
		}
	}
	for v, want := range map[string]string{"T": "125", "U": "38", "CD": "4", "EF": "7"} {
		if got[v] != want {
			t.Error(v, got[v])
		}
	}
	if len(got) != 4 {
		t.Error(got)
	}
	o := Learn(l)
	if o.Of(api.Passage{Plate: "AB"}) != "T" || o.Of(api.Passage{Plate: "CD"}) != "CD" || o.Of(api.Passage{}) != "" || o.Of(api.Passage{Tag: "X", Plate: "AB"}) != "X" {
		t.Error(o)
	}
}
