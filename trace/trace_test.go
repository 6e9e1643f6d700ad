package trace

import (
	"math"
	"math/rand"
	"slices"
	"strconv"
	"strings"
	"testing"

	"tollway/api"
	"tollway/engine"
	"tollway/sample"
	"tollway/source"
)

// show writes facts in a short form.
func show(l []api.Fact) string {
	var s []string
	for _, f := range l {
		x := f.Kind + " " + f.Key
		if f.Why != 0 {
			x += " " + strconv.Itoa(f.Why)
		}
		s = append(s, x)
	}
	return strings.Join(s, "; ")
}

func src(device string, seq int) api.Source { return api.Source{Device: device, Seq: seq} }

func example() api.State {
	d := api.Detection{Device: "c1", Seq: 7}
	return api.State{
		Seen: []api.Seen{{D: d}},
		Result: api.Result{
			Passages: []api.Passage{{ID: "c1.7", Sources: []api.Source{src("c1", 7)}}},
			Trips:    []api.Trip{{ID: "c1.7", Stops: []api.Stop{{Point: "a", Passage: "c1.7"}}}},
			Charges:  []api.Charge{{Key: "t:c1.7", Vehicle: "AB12", Lines: []api.Line{{Text: "base"}}}},
		},
	}
}

// P52.1 to P52.4: the example
func TestExample(t *testing.T) {
	s := example()
	l, e := Detection(s, src("c1", 7))
	if x := show(l); x != "detection c1.7; passage c1.7; trip c1.7; charge t:c1.7" || e != api.OK {
		t.Error(x, int(e))
	}
	l, e = Passage(s, "c1.7")
	if x := show(l); x != "passage c1.7; trip c1.7; charge t:c1.7" || e != api.OK {
		t.Error(x, int(e))
	}
	l, e = Charge(s, "t:c1.7")
	if x := show(l); x != "charge t:c1.7; line base; trip c1.7; passage c1.7; detection c1.7; vehicle AB12 17" || e != api.OK {
		t.Error(x, int(e))
	}
	if x := Print(l[5:]); x != "vehicle AB12 no account\n" {
		t.Error(x)
	}
}

// P52.1
func TestDetection(t *testing.T) {
	s := example()
	for i, x := range []api.Source{src("c1", 8), src("c2", 7), src("", 0)} {
		if l, e := Detection(s, x); len(l) != 0 || e != api.ErrNone {
			t.Error(i, l, int(e))
		}
	}
	reject := func(device string, seq, why int) api.Reject {
		return api.Reject{D: api.Detection{Device: device, Seq: seq}, Why: why}
	}
	s.Rejects = []api.Reject{reject("r", -5, 1)}
	s.Result.Rejects = []api.Reject{reject("q", 1, 4), reject("c1", 7, 6), reject("q", 1, 4), reject("q", 2, 5)}
	s.Result.Passages = append(s.Result.Passages, api.Passage{ID: "z", Sources: []api.Source{src("a", 1), src("c1", 7)}})
	s.Result.Exclusions = []api.Exclusion{{ID: "z", Why: 9}, {ID: "c1.7", Why: 10}, {ID: "z", Why: 3}}
	for x, want := range map[api.Source]string{src("r", -5): "detection r.-5", src("q", 1): "detection q.1; reject q.1 4; reject q.1 4", src("c1", 7): "detection c1.7; reject c1.7 6; passage c1.7; trip c1.7; charge t:c1.7; exclusion c1.7 10; passage z; exclusion z 9; exclusion z 3"} {
		if l, e := Detection(s, x); show(l) != want || e != api.OK {
			t.Error(x, show(l), int(e))
		}
	}
	if l, e := Detection(s, src("a", 1)); len(l) != 0 || e != api.ErrNone {
		t.Error("a source that is no detection", l, int(e))
	}
}

// P52.2
func TestPassage(t *testing.T) {
	s := example()
	s.Result.Trips = append(s.Result.Trips, api.Trip{ID: "other", Stops: []api.Stop{{}, {Passage: "x"}, {Passage: "c1.7"}}}, api.Trip{ID: "no"})
	if l, e := Passage(s, "c1.7"); show(l) != "passage c1.7; trip c1.7; charge t:c1.7; trip other" || e != api.OK {
		t.Error(show(l), int(e))
	}
	for _, id := range []string{"x", "", "other"} {
		if l, e := Passage(s, id); len(l) != 0 || e != api.ErrNone {
			t.Error(id, l, int(e))
		}
	}
}

// P52.3
func TestCharge(t *testing.T) {
	s := example()
	s.Config.Accounts = []api.Account{{Name: "ann", Owned: []api.Owned{{Plate: "AB12", Time: api.Interval{From: 0, To: 100}}}}}
	s.Result.Passages[0].Sources = []api.Source{src("c1", 7), src("l1", 3)}
	s.Result.Passages = append(s.Result.Passages, api.Passage{ID: "c1.7", Sources: []api.Source{src("x", 1)}})
	s.Result.Trips[0].Stops = []api.Stop{{Point: "a", Passage: "c1.7"}, {Point: "b"}, {Point: "c", Passage: "gone"}}
	s.Result.Trips = append(s.Result.Trips, api.Trip{ID: "c1.7"})
	s.Result.Charges[0].Lines = append(s.Result.Charges[0].Lines, api.Line{Text: ""})
	s.Result.Charges = append(s.Result.Charges, api.Charge{Key: "t:c1.7", Vehicle: "second"}, api.Charge{Key: "p:s", Vehicle: "AB12", Time: 100}, api.Charge{Key: "p:other", Vehicle: "AB12", Time: 99}, api.Charge{Key: "t:x", Vehicle: ""})
	s.Result.Stays = []api.Stay{{ID: "s"}, {ID: "s"}}
	s.Books.Done = []api.Charge{{Key: "p:s"}, {Key: "p:s"}}
	for key, want := range map[string]string{
		"t:c1.7":  "charge t:c1.7; line base; line ; trip c1.7; passage c1.7; detection c1.7; detection l1.3; inferred b; passage gone; account ann",
		"p:s":     "charge p:s; stay s; vehicle AB12 17; posted p:s",
		"p:other": "charge p:other; account ann",
		"t:x":     "charge t:x; vehicle  17",
	} {
		if l, e := Charge(s, key); show(l) != want || e != api.OK {
			t.Error(key, show(l), int(e))
		}
	}
	if l, e := Charge(s, "c1.7"); len(l) != 0 || e != api.ErrNone {
		t.Error(l, int(e))
	}
}

// P52.4, P52.5
func TestPrint(t *testing.T) {
	l := []api.Fact{{Kind: "line", Key: "a b"}, {Kind: "reject", Key: "", Why: 4}, {Kind: "x", Key: "%", Why: 99}}
	if s := Print(l); s != "line a%20b\nreject % conflicting reports\nx %25 \n" {
		t.Errorf("%q", s)
	}
	if s := Print(nil); s != "" {
		t.Error(s)
	}
	want := strings.Split("unknown device,invalid time,malformed reading,conflicting reports,out of service,unassigned axles,low confidence,too many detections,elsewhere at that time,no entry,no exit,check points alone,no rate,waived for an outage,exempt,capped,no account,already paid", ",")
	for i, s := range want {
		if Why(i+1) != s {
			t.Error(i+1, Why(i+1))
		}
	}
	for _, n := range []int{0, -1, 19, math.MinInt, math.MaxInt} {
		if s := Why(n); s != "" {
			t.Error(n, s)
		}
	}
}

// P52.6, P52.7
func TestConsequences(t *testing.T) {
	r := rand.New(rand.NewSource(1))
	charges := 0
	for range 15 {
		s, e := engine.New(sample.Config())
		if e != api.OK {
			t.Fatal(int(e))
		}
		var es []api.Event
		for range 100 {
			es = append(es, sample.Event(r.Intn))
		}
		s, _ = engine.All(s, es)
		for _, x := range s.Seen {
			l, e := Detection(s, src(x.D.Device, x.D.Seq))
			n := 0
			for _, f := range l {
				if f.Kind == "reject" || f.Kind == "passage" {
					n++
				}
			}
			if n != 1 || e != api.OK {
				t.Fatal(x, show(l))
			}
		}
		for _, p := range s.Result.Passages {
			l, e := Passage(s, p.ID)
			explained := false
			for _, f := range l {
				explained = explained || f.Kind == "trip" || f.Kind == "exclusion"
				if f.Kind == "charge" {
					charges++
					c, e := Charge(s, f.Key)
					if e != api.OK || !slices.Contains(c, api.Fact{Kind: "passage", Key: p.ID}) || !slices.Contains(c, api.Fact{Kind: "detection", Key: source.Name(p.Sources[0])}) {
						t.Fatal(f, show(c))
					}
				}
			}
			if !explained || e != api.OK {
				t.Fatal(p, show(l))
			}
		}
		for _, x := range s.Result.Charges {
			if l, e := Charge(s, x.Key); e != api.OK || l[0] != (api.Fact{Kind: "charge", Key: x.Key}) {
				t.Fatal(x, show(l))
			}
		}
	}
	if charges == 0 {
		t.Error("no charges")
	}
	Detection(api.State{}, api.Source{})
}
