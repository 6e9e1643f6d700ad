package sound

import (
	"testing"

	"tollway/api"
	"tollway/batch"
	"tollway/sample"
)

func TestOnce(t *testing.T) {
	r := api.Result{
		Passages:   []api.Passage{{ID: "a"}, {ID: "b"}},
		Trips:      []api.Trip{{ID: "a", Stops: []api.Stop{{Passage: "a"}}}},
		Charges:    []api.Charge{{Key: "t:a"}},
		Exclusions: []api.Exclusion{{ID: "b", Why: 9}},
	}
	if !Once(r) || !Once(api.Result{}) {
		t.Error("once")
	}
	two := r
	two.Exclusions = append(two.Exclusions, api.Exclusion{ID: "a", Why: 9})
	none := r
	none.Exclusions = nil
	same := r
	same.Passages = append(same.Passages, api.Passage{ID: "a"})
	if Once(two) || Once(none) || Once(same) {
		t.Error("not once")
	}
}

func TestRecomputed(t *testing.T) {
	s := api.State{Config: sample.Config(), Parked: []api.Parked{sample.Park(api.EvIn, "AB12", 5, 0).Park}}
	if Recomputed(s) {
		t.Error("the result is missing")
	}
	s.Result, _ = batch.Finish(s.Config, s.Seen, s.Rejects, s.Parked)
	if !Recomputed(s) {
		t.Error("recomputed")
	}
	s.Config.Caps = append(s.Config.Caps, api.Cap{}) // batch.Finish has an error
	if Recomputed(s) {
		t.Error("an error")
	}
}
