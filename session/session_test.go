package session

import (
	"math"
	"math/rand"
	"reflect"
	"slices"
	"strconv"
	"testing"

	"tollway/api"
)

func zones() []api.Zone {
	fee := []api.Step{{Unit: 60, Cents: 1}}
	return []api.Zone{{Name: "z", Steps: fee, Grace: 300, MaxStay: 7200}, {Name: "free", Steps: fee}, {Name: "bad"}, {Name: "bad", Steps: fee}}
}

func ev(kind, time, until int) api.Parked {
	return api.Parked{Kind: kind, Zone: "z", Plate: "AB1", Time: time, Until: until}
}

func running1(from, until int) api.Session {
	return api.Session{ID: Key(ev(1, from, until)), Zone: "z", Plate: "AB1", From: from, Until: until, State: 1}
}

func same1(a, b []api.Session) bool {
	return slices.EqualFunc(a, b, func(x, y api.Session) bool {
		seen := slices.Equal(x.Seen, y.Seen)
		x.Seen, y.Seen = nil, nil
		return seen && reflect.DeepEqual(x, y)
	})
}

// P27.1
func TestKey(t *testing.T) {
	if s := Key(ev(1, 1000, 4600)); s != "1.z.AB1.1000.4600" {
		t.Error(s)
	}
	if s := Key(api.Parked{Kind: math.MinInt, Time: -1}); s != "-9223372036854775808...-1.0" {
		t.Error(s)
	}
}

// P27.2
func TestCheck(t *testing.T) {
	for i, x := range []struct {
		change func(p *api.Parked)
		e      api.Errno
	}{
		{func(p *api.Parked) {}, api.OK}, {func(p *api.Parked) { p.Kind, p.Zone = 0, "x" }, api.ErrArg}, {func(p *api.Parked) { p.Kind = 7 }, api.ErrArg}, {func(p *api.Parked) { p.Zone, p.Plate = "x", "?" }, api.ErrZone}, {func(p *api.Parked) { p.Zone = "bad" }, api.ErrZone}, {func(p *api.Parked) { p.Plate, p.Time = "ab1", -1 }, api.ErrPlate}, {func(p *api.Parked) { p.Plate = "A" }, api.ErrPlate},
		{func(p *api.Parked) { p.Time = -1 }, api.ErrTime}, {func(p *api.Parked) { p.Time, p.Until = api.MaxTime, api.MaxTime+1 }, api.ErrTime}, {func(p *api.Parked) { p.Until = 1000 }, api.ErrTime}, {func(p *api.Parked) { p.Until = 0 }, api.ErrTime}, {func(p *api.Parked) { p.Zone, p.Until = "free", api.MaxTime }, api.OK}, {func(p *api.Parked) { p.Zone, p.Until = "free", api.MaxTime+1 }, api.ErrTime}, {func(p *api.Parked) { p.Until = api.MaxTime + 1 }, api.ErrTime}, {func(p *api.Parked) { p.Until = 8200 }, api.OK}, {func(p *api.Parked) { p.Until = 8201 }, api.ErrLimit}, {func(p *api.Parked) { p.Until = math.MinInt }, api.ErrTime}, {func(p *api.Parked) { p.Time, p.Until = api.MaxTime-7201, api.MaxTime }, api.ErrLimit}, {func(p *api.Parked) { p.Time, p.Until = api.MaxTime-7200, api.MaxTime }, api.OK}, {func(p *api.Parked) { p.Time, p.Until = 0, 1 }, api.OK},
		{func(p *api.Parked) { p.Kind, p.Until = api.EvExtend, 8201 }, api.OK}, {func(p *api.Parked) { p.Kind, p.Until = api.EvExtend, 1000 }, api.ErrTime}, {func(p *api.Parked) { p.Kind, p.Until = api.EvExtend, api.MaxTime+1 }, api.ErrTime}, {func(p *api.Parked) { p.Kind = api.EvStop }, api.ErrTime}, {func(p *api.Parked) { p.Kind, p.Until = api.EvStop, 0 }, api.OK}, {func(p *api.Parked) { p.Kind, p.Until = api.EvCheck, 0 }, api.OK}, {func(p *api.Parked) { p.Kind, p.Until = api.EvIn, 0 }, api.OK}, {func(p *api.Parked) { p.Kind, p.Until = api.EvOut, 0 }, api.OK}, {func(p *api.Parked) { p.Kind, p.Until = api.EvOut, -1 }, api.ErrTime},
	} {
		p := ev(api.EvStart, 1000, 4600)
		x.change(&p)
		if e := Check(p, zones()); e != x.e {
			t.Error(i, int(e))
		}
		if x.e != api.OK {
			l := []api.Session{running1(1, 2)}
			if r, e := Step(l, p, zones()); !same1(r, l) || e != x.e {
				t.Error("Step", i, r, int(e))
			}
		}
	}
}

// P27.3: the example, and every kind of event
func TestStep(t *testing.T) {
	one := []api.Session{running1(1000, 4600)}
	with := func(s api.Session, change func(s *api.Session)) []api.Session {
		change(&s)
		return []api.Session{s}
	}
	early := []api.Session{{Zone: "z", Plate: "AB1", From: 5000, Until: 9000, State: 1}}
	huge := []api.Session{{Zone: "z", Plate: "AB1", From: math.MinInt, Until: math.MaxInt, State: 1}}
	small := []api.Session{{Zone: "z", Plate: "AB1", From: math.MinInt, Until: math.MinInt, State: 1}}
	for i, x := range []struct {
		l    []api.Session
		p    api.Parked
		want []api.Session
		e    api.Errno
	}{
		{nil, ev(1, 1000, 4600), one, api.OK}, {one, ev(1, 4899, 5000), nil, api.ErrState}, {one, ev(1, 4900, 5000), append(one[:1:1], running1(4900, 5000)), api.OK}, {one, ev(1, 999, 5000), append(one[:1:1], running1(999, 5000)), api.OK}, {one, ev(1, 1000, 5000), nil, api.ErrState},
		{one, ev(2, 4700, 5000), with(one[0], func(s *api.Session) { s.Until = 5000 }), api.OK}, {one, ev(2, 4500, 4600), nil, api.ErrOrder}, {one, ev(2, 4500, 4601), with(one[0], func(s *api.Session) { s.Until = 4601 }), api.OK}, {one, ev(2, 4700, 8201), nil, api.ErrLimit}, {one, ev(2, 4700, 8200), with(one[0], func(s *api.Session) { s.Until = 8200 }), api.OK}, {one, ev(2, 4900, 5000), nil, api.ErrState}, {nil, ev(2, 4900, 5000), nil, api.ErrState}, {early, ev(2, 4900, 9900), nil, api.ErrState}, {huge, ev(2, 4900, 9900), nil, api.ErrOrder}, {small, ev(2, 4900, 9900), nil, api.ErrState},
		{one, ev(3, 2000, 0), with(one[0], func(s *api.Session) { s.Until, s.State = 2000, 2 }), api.OK}, {one, ev(3, 4700, 0), with(one[0], func(s *api.Session) { s.State = 2 }), api.OK}, {one, ev(3, 4900, 0), nil, api.ErrState}, {one, ev(3, 999, 0), nil, api.ErrState}, {one, ev(3, 1000, 0), with(one[0], func(s *api.Session) { s.Until, s.State = 1000, 2 }), api.OK},
		{one, ev(4, 4899, 0), with(one[0], func(s *api.Session) { s.Seen = []int{4899} }), api.OK}, {one, ev(4, 4900, 0), with(one[0], func(s *api.Session) { s.State = 3 }), api.OK}, {one, ev(4, 999, 0), one, api.OK}, {nil, ev(4, 999, 0), nil, api.OK}, {one, ev(5, 2000, 0), one, api.OK}, {one, ev(6, 2000, 0), one, api.OK},
		{with(one[0], func(s *api.Session) { s.State = 2 }), ev(3, 2000, 0), nil, api.ErrState}, {with(one[0], func(s *api.Session) { s.State = 2 }), ev(4, 9000, 0), with(one[0], func(s *api.Session) { s.State = 2 }), api.OK}, {with(one[0], func(s *api.Session) { s.Plate = "AB2" }), ev(3, 2000, 0), nil, api.ErrState}, {with(one[0], func(s *api.Session) { s.Zone = "free" }), ev(3, 2000, 0), nil, api.ErrState},
	} {
		before := slices.Clone(x.l)
		r, e := Step(x.l, x.p, zones())
		if e != x.e || e == api.OK && !same1(r, x.want) || e != api.OK && !same1(r, x.l) {
			t.Error(i, r, int(e))
		}
		if !same1(before, x.l) {
			t.Error("changed", i)
		}
	}
	// Several sessions: the last one counts; EvCheck concerns the last running one, even if an earlier one is current.
	two := []api.Session{running1(1000, 4600), running1(1100, 4600)}
	if r, _ := Step(two, ev(3, 2000, 0), zones()); r[0].State != 1 || r[1].State != 2 {
		t.Error(r)
	}
	two[1].Until = 1500
	if r, _ := Step(two, ev(3, 2000, 0), zones()); r[0].State != 2 || r[1].State != 1 {
		t.Error(r)
	}
	if r, _ := Step(two, ev(4, 2000, 0), zones()); r[0].State != 1 || len(r[0].Seen) != 0 || r[1].State != 3 {
		t.Error(r)
	}
	// New memory, also behind the list of times.
	seen := make([]int, 1, 9)
	l := []api.Session{running1(1000, 4600)}
	l[0].Seen = seen
	r, _ := Step(l, ev(4, 2000, 0), zones())
	if seen[:2][1] != 0 || len(r[0].Seen) != 2 {
		t.Error("shared memory", r)
	}
	r[0].Seen[0] = 9
	if seen[0] != 0 {
		t.Error("shared memory")
	}
}

// P27.4
func TestSort(t *testing.T) {
	a := api.Parked{Kind: 1, Zone: "a", Plate: "a", Time: 1, Until: 1}
	l := []api.Parked{a}
	for _, f := range []func(p *api.Parked){func(p *api.Parked) { p.Until = 2 }, func(p *api.Parked) { p.Plate, p.Until = "b", 0 }, func(p *api.Parked) { p.Zone, p.Plate = "b", "A" }, func(p *api.Parked) { p.Kind, p.Zone = 2, "A" }, func(p *api.Parked) { p.Time, p.Kind = 2, 0 }} {
		b := a
		f(&b)
		l = append(l, b)
	}
	r := rand.New(rand.NewSource(1))
	for range 50 {
		x := append(slices.Clone(l), l...)
		r.Shuffle(len(x), func(i, j int) { x[i], x[j] = x[j], x[i] })
		before := slices.Clone(x)
		if s := Sort(x); !slices.Equal(s, l) || !slices.Equal(x, before) {
			t.Fatal(s)
		}
	}
}

// P27.5
func TestAll(t *testing.T) {
	bad := ev(1, 500, 400)
	ps := []api.Parked{ev(4, 4900, 0), ev(2, 2000, 6000), ev(1, 1000, 4600), ev(1, 1000, 4600), ev(1, 1500, 4000), bad, ev(3, 5000, 0), ev(3, 5001, 0), ev(5, 6000, 0)}
	l, out := All(ps, zones())
	want := running1(1000, 4600)
	want.Until, want.State, want.Seen = 5000, 2, []int{4900}
	if !same1(l, []api.Session{want}) {
		t.Error(l)
	}
	if !slices.Equal(out, []api.Exclusion{{ID: Key(bad), Why: api.WhyForm}, {ID: Key(ev(1, 1500, 4000)), Why: api.WhyConflict}, {ID: Key(ev(3, 5001, 0)), Why: api.WhyConflict}}) {
		t.Error(out)
	}
	if l, out := All(nil, nil); len(l)+len(out) != 0 {
		t.Error(l, out)
	}
}

// P27.6, P27.7
func TestPaid(t *testing.T) {
	for _, x := range [][4]int{{5, 9, 5, 9}, {5, 5, 0, 0}, {9, 5, 0, 0}, {-1, 5, 0, 0}, {0, api.MaxTime + 1, 0, 0}, {0, api.MaxTime, 0, api.MaxTime}} {
		if i := Paid(api.Session{From: x[0], Until: x[1], State: 9}); i != (api.Interval{From: x[2], To: x[3]}) {
			t.Error(x, i)
		}
	}
	z := zones()[0]
	for _, x := range []struct {
		until, t int
		want     bool
	}{{4600, 4900, true}, {4600, 4899, false}, {4600, -1, false}, {-9000, -1, false}, {4600, api.MaxTime, false}, {math.MaxInt, 5000, false}, {math.MinInt, 0, true}} {
		if Over(z, api.Session{Until: x.until}, x.t) != x.want {
			t.Error(x)
		}
	}
	if Over(api.Zone{Name: "z"}, api.Session{}, 5000) {
		t.Error("a zone that is not right")
	}
}

// P27.8 to P27.10
func TestAnyOrder(t *testing.T) {
	r := rand.New(rand.NewSource(2))
	for range 1500 {
		ps := make([]api.Parked, r.Intn(14))
		for i := range ps {
			p := api.Parked{Kind: r.Intn(8), Zone: []string{"z", "free", "bad"}[min(r.Intn(5), 2)%3], Plate: "AB" + strconv.Itoa(r.Intn(2)), Time: 100 * r.Intn(50)}
			if p.Kind == 1 || p.Kind == 2 {
				p.Until = p.Time + 100*r.Intn(20)
			}
			ps[i] = p
		}
		l, out := All(ps, zones())
		starts, ids := 0, map[string]bool{}
		excluded := map[string]bool{}
		for _, e := range out {
			excluded[e.ID] = true
		}
		for _, p := range Sort(ps) {
			if p.Kind == 1 && !excluded[Key(p)] {
				starts++
				ids[Key(p)] = true
			}
		}
		for i, s := range l {
			if !ids[s.ID] {
				t.Fatal(s, ids)
			}
			delete(ids, s.ID)
			for _, o := range l[:i] {
				a, b := Paid(s), Paid(o)
				if o.Zone == s.Zone && o.Plate == s.Plate && max(a.From, b.From) < min(a.To, b.To) {
					t.Fatal("overlap", o, s)
				}
			}
		}
		if len(l) != starts || len(ids) != 0 {
			t.Fatal(l, starts)
		}
		// One after the other by Step, from a shuffled list with repetitions.
		again := append(slices.Clone(ps), ps...)
		r.Shuffle(len(again), func(i, j int) { again[i], again[j] = again[j], again[i] })
		l2, out2 := All(again, zones())
		var l3 []api.Session
		var out3 []api.Exclusion
		for _, p := range Sort(again) {
			var e api.Errno
			if l3, e = Step(l3, p, zones()); e != api.OK {
				why := api.WhyConflict
				if Check(p, zones()) != api.OK {
					why = api.WhyForm
				}
				out3 = append(out3, api.Exclusion{ID: Key(p), Why: why})
			}
		}
		if !same1(l, l2) || !slices.Equal(out, out2) || !same1(l, l3) || !slices.Equal(out, out3) {
			t.Fatal(ps, l, l2, l3)
		}
	}
}
