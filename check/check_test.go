package check

import (
	"math"
	"math/rand"
	"slices"
	"testing"

	"tollway/api"
	"tollway/engine"
	"tollway/fresh"
	"tollway/sample"
)

const day = 86400

func start(t *testing.T) api.State {
	t.Helper()
	s, e := engine.New(sample.Config())
	if e != api.OK {
		t.Fatal(int(e))
	}
	return s
}

func full(t *testing.T) api.State {
	t.Helper()
	s, n := engine.All(start(t), []api.Event{sample.Detect("topen", 1, 50, sample.Tag(1), 0), sample.Detect("copen", 2, 53, "AB12", 0), sample.Detect("copen", 3, 3000, "XY99", 0), sample.Detect("copen", 4, day, "ZZ11", 0), sample.Detect("lopen", 5, 9000, "", 2), sample.Detect("x", 6, 5, "", 0), {Kind: api.IClose, Day: 2}, {Kind: api.IPay, Name: "ann", Cents: 5}})
	if n != 8 || len(s.Cases) != 2 {
		t.Fatal(n, s.Cases)
	}
	return s
}

// P54.1: each rule, by a change that violates it
func TestFind(t *testing.T) {
	for i, x := range []struct {
		change func(s *api.State)
		want   []int
	}{
		{func(s *api.State) {}, nil},
		{func(s *api.State) { s.Result.Charges = s.Result.Charges[1:] }, []int{1, 3}},
		{func(s *api.State) {
			s.Result.Exclusions = append(s.Result.Exclusions, api.Exclusion{ID: s.Result.Passages[0].ID, Why: 9})
		}, []int{1, 3}},
		{func(s *api.State) { s.Result.Passages = append(s.Result.Passages, s.Result.Passages[0]) }, []int{1, 2, 3}},
		{func(s *api.State) { s.Result.Passages[0].Sources = s.Result.Passages[0].Sources[1:] }, []int{2, 3}},
		{func(s *api.State) {
			p := &s.Result.Passages[0]
			p.Sources = append(p.Sources, p.Sources[0])
		}, []int{3}},
		{func(s *api.State) { s.Result.Rejects = nil }, []int{2, 3}},
		{func(s *api.State) { s.Result.Rejects = append(s.Result.Rejects, s.Result.Rejects...) }, []int{2, 3}},
		{func(s *api.State) { s.Result.Rejects = append(s.Result.Rejects, api.Reject{D: s.Seen[0].D, Why: 6}) }, []int{2, 3}},
		{func(s *api.State) { s.Result.Rejects[0].Why = 9 }, []int{3}},
		{func(s *api.State) { s.Result.Stays = append(s.Result.Stays, api.Stay{}) }, []int{3}},
		{func(s *api.State) { s.Config.Caps = []api.Cap{{}} }, []int{3}},
		{func(s *api.State) { s.Result.Trips[0].Vehicle = "" }, []int{3, 4}},
		{func(s *api.State) { s.Result.Charges[0].Cents++ }, []int{3, 5}},
		{func(s *api.State) {
			s.Result.Charges[0], s.Result.Charges[1] = s.Result.Charges[1], s.Result.Charges[0]
		}, []int{3, 5}},
		{func(s *api.State) { s.Books.Done[0].Cents++ }, []int{6}},
		{func(s *api.State) { s.Books.Done[0], s.Books.Done[1] = s.Books.Done[1], s.Books.Done[0] }, []int{6}},
		{func(s *api.State) { s.Books.Ledger.Entries[0].Posts[0].Cents++ }, []int{6}},
		{func(s *api.State) { s.Books.Ledger.Entries = append(s.Books.Ledger.Entries, s.Books.Ledger.Entries[0]) }, []int{6}},
		{func(s *api.State) { s.Closed = 1 }, []int{7}},
		{func(s *api.State) { s.Closed = math.MinInt }, []int{7}},
		{func(s *api.State) { s.Closed = math.MaxInt }, nil},
		{func(s *api.State) { s.Books.Done[2].Time = 2*day - 1 }, nil},
		{func(s *api.State) { s.Books.Done[2].Time = 2 * day }, []int{7}},
		{func(s *api.State) { s.Cases[1].ID = s.Cases[0].ID }, []int{8}},
		{func(s *api.State) { s.Cases[1].Key = s.Cases[0].Key }, []int{8}},
		{func(s *api.State) { s.Cases[0].Stage = 99 }, nil},
		{func(s *api.State) { s.Closed, s.Cases = 0, append(s.Cases, s.Cases[0]); s.Result.Trips[0].Class = 0 }, []int{3, 4, 7, 8}},
	} {
		s := full(t)
		x.change(&s)
		before := fresh.State(s)
		if l := Find(s); !slices.Equal(l, x.want) {
			t.Error(i, l, x.want)
		}
		if Sound(s) != (len(x.want) == 0) || Once(s.Result) != !slices.Contains(x.want, 1) {
			t.Error(i, "Sound or Once")
		}
		if !slices.Equal(before.Cases, s.Cases) {
			t.Error("changed")
		}
	}
}

// P54.2
func TestText(t *testing.T) {
	for i, want := range []string{"", "once", "detections", "result", "trips", "charges", "books", "posted", "cases", ""} {
		if s := Text(i); s != want {
			t.Error(i, s)
		}
	}
	if Text(-1) != "" || Text(math.MinInt) != "" || Text(math.MaxInt) != "" {
		t.Error("no rule")
	}
}

// P54.4
func TestBalanced(t *testing.T) {
	for i, x := range []struct {
		change func(s *api.State)
		want   bool
	}{
		{func(s *api.State) {}, true}, {func(s *api.State) { s.Closed = 1 }, false}, {func(s *api.State) { s.Closed = 99 }, true}, {func(s *api.State) { s.Closed = math.MaxInt }, true}, {func(s *api.State) { s.Closed = math.MinInt }, false}, {func(s *api.State) { s.Books.Done = s.Books.Done[1:] }, false}, {func(s *api.State) { s.Books.Done[0].Lines[0].Text = "x" }, false}, {func(s *api.State) { s.Books.Done[0], s.Books.Done[1] = s.Books.Done[1], s.Books.Done[0] }, false}, {func(s *api.State) { s.Result.Charges = nil }, false}, {func(s *api.State) { s.Books.Done, s.Closed = nil, 0 }, true}, {func(s *api.State) { s.Result.Charges[0].Time = -1 }, false},
		{func(s *api.State) {
			s.Result.Charges[0], s.Result.Charges[2] = s.Result.Charges[2], s.Result.Charges[0]
		}, true}, // the order of the result does not matter
	} {
		s := full(t)
		x.change(&s)
		if Balanced(s) != x.want {
			t.Error(i)
		}
	}
	// The day -1 ends at 0.
	s := api.State{Result: api.Result{Charges: []api.Charge{{Key: "a", Time: -1}, {Key: "b", Time: 0}}}, Books: api.Books{Done: []api.Charge{{Key: "a", Time: -1}}}}
	if !Balanced(s) {
		t.Error("negative times")
	}
}

// P54.5, P54.6
func TestConsequences(t *testing.T) {
	if s := start(t); !Sound(s) || !Balanced(s) {
		t.Error("a new state")
	}
	r := rand.New(rand.NewSource(1))
	for range 10 {
		s := start(t)
		for range 60 {
			e := sample.Event(r.Intn)
			next, why := engine.Do(s, e)
			if why != api.OK {
				continue
			}
			s = next
			if l := Find(s); len(l) != 0 {
				t.Fatal(e, l)
			}
			if e.Kind == api.IClose && !Balanced(s) {
				t.Fatal(e, "is not balanced")
			}
		}
	}
}
