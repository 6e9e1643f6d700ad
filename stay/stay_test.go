package stay

import (
	"math"
	"math/rand"
	"slices"
	"testing"

	"tollway/api"
	"tollway/permit"
	"tollway/session"
	"tollway/zone"
)

func iv(from, to int) api.Interval { return api.Interval{From: from, To: to} }

func gateEvent(kind, time int) api.Parked {
	return api.Parked{Kind: kind, Zone: "z", Plate: "AB1", Time: time}
}

func in(time int) api.Parked { return gateEvent(api.EvIn, time) }

func out(time int) api.Parked { return gateEvent(api.EvOut, time) }

func stayOf(from, to int) api.Stay {
	s := api.Stay{Zone: "z", Plate: "AB1", Time: iv(from, to)}
	s.ID = ID(s)
	return s
}

func why(p api.Parked, why int) api.Exclusion { return api.Exclusion{ID: session.Key(p), Why: why} }

// P30.1
func TestPair(t *testing.T) {
	other := in(150)
	other.Plate = "CD2"
	elsewhere := out(450)
	elsewhere.Zone = "y"
	for i, x := range []struct {
		ps    []api.Parked
		stays []api.Stay
		out   []api.Exclusion
	}{
		{[]api.Parked{in(100), out(500)}, []api.Stay{stayOf(100, 500)}, nil}, {[]api.Parked{in(0), out(api.MaxTime - 1)}, []api.Stay{stayOf(0, api.MaxTime-1)}, nil}, {[]api.Parked{in(100), in(200), out(500), out(50)}, []api.Stay{stayOf(200, 500)}, []api.Exclusion{why(out(50), api.WhyNoEntry), why(in(100), api.WhyNoExit)}}, {nil, nil, nil}, {[]api.Parked{in(100)}, nil, []api.Exclusion{why(in(100), api.WhyNoExit)}}, {[]api.Parked{in(100), out(100)}, nil, []api.Exclusion{why(in(100), api.WhyTime), why(out(100), api.WhyTime)}},
		{[]api.Parked{in(100), out(100), out(200)}, nil, []api.Exclusion{why(in(100), api.WhyTime), why(out(100), api.WhyTime), why(out(200), api.WhyNoEntry)}}, {[]api.Parked{in(100), out(500), out(600)}, []api.Stay{stayOf(100, 500)}, []api.Exclusion{why(out(600), api.WhyNoEntry)}}, {[]api.Parked{in(100), in(100), out(500), out(500)}, []api.Stay{stayOf(100, 500)}, nil}, {[]api.Parked{in(100), out(500), in(500), out(700)}, nil, []api.Exclusion{why(in(100), api.WhyNoExit), why(in(500), api.WhyTime), why(out(500), api.WhyTime), why(out(700), api.WhyNoEntry)}},
		{[]api.Parked{in(-1), out(50), in(api.MaxTime), in(60), out(math.MaxInt)}, nil, []api.Exclusion{why(in(-1), api.WhyTime), why(out(50), api.WhyNoEntry), why(in(60), api.WhyNoExit), why(in(api.MaxTime), api.WhyTime), why(out(math.MaxInt), api.WhyTime)}},
		{[]api.Parked{in(100), other, elsewhere, out(500)}, []api.Stay{stayOf(100, 500)}, []api.Exclusion{why(other, api.WhyNoExit), why(elsewhere, api.WhyNoEntry)}}, {[]api.Parked{in(100), gateEvent(1, 200), gateEvent(4, 200), gateEvent(9, 300), out(500)}, []api.Stay{stayOf(100, 500)}, nil},
	} {
		r := rand.New(rand.NewSource(int64(i)))
		r.Shuffle(len(x.ps), func(i, j int) { x.ps[i], x.ps[j] = x.ps[j], x.ps[i] })
		if stays, out := Pair(x.ps); !slices.Equal(stays, x.stays) || !slices.Equal(out, x.out) {
			t.Error(i, stays, out)
		}
	}
	// The order of the entries, not that of the exits.
	long := []api.Parked{{Kind: 5, Zone: "z", Plate: "B", Time: 1}, {Kind: 6, Zone: "z", Plate: "B", Time: 9}, {Kind: 5, Zone: "z", Plate: "A", Time: 2}, {Kind: 6, Zone: "z", Plate: "A", Time: 3}}
	if stays, _ := Pair(long); len(stays) != 2 || stays[0].Plate != "B" || stays[1].Plate != "A" {
		t.Error(stays)
	}
}

// P30.2
func TestID(t *testing.T) {
	if s := ID(api.Stay{ID: "x", Zone: "z", Plate: "AB1", Time: iv(100, 500)}); s != "5.z.AB1.100.0" {
		t.Error(s)
	}
	if s := ID(api.Stay{}); s != "5...0.0" {
		t.Error(s)
	}
}

func fee() []api.Step { return []api.Step{{Unit: 60, Cents: 1}} }

// P30.3
func TestCheck(t *testing.T) {
	zones := []api.Zone{{Name: "z", Steps: fee()}, {Name: "bad"}, {Name: "bad", Steps: fee()}}
	for i, x := range []struct {
		change func(s *api.Stay)
		e      api.Errno
	}{
		{func(s *api.Stay) {}, api.OK}, {func(s *api.Stay) { s.Zone, s.Plate = "x", "?" }, api.ErrZone}, {func(s *api.Stay) { s.Zone = "bad" }, api.ErrZone}, {func(s *api.Stay) { s.Plate, s.Time.To = "ab1", 0 }, api.ErrPlate}, {func(s *api.Stay) { s.Plate = "" }, api.ErrPlate}, {func(s *api.Stay) { s.Time.To, s.ID = 100, "" }, api.ErrTime}, {func(s *api.Stay) { s.Time.To = api.MaxTime + 1 }, api.ErrTime}, {func(s *api.Stay) { s.Time.To = api.MaxTime }, api.OK}, {func(s *api.Stay) { s.ID = "" }, api.ErrName}, {func(s *api.Stay) { s.Time.From = 99 }, api.ErrName},
	} {
		s := stayOf(100, 500)
		x.change(&s)
		if e := Check(s, zones); e != x.e {
			t.Error(i, int(e))
		}
		if x.e != api.OK {
			if l, e := Unpaid(s, zones, nil, nil); len(l) != 0 || e != x.e {
				t.Error("Unpaid", i, l, int(e))
			}
		}
	}
}

// P30.4
func TestUnpaid(t *testing.T) {
	z := api.Zone{Name: "z", Steps: fee(), Free: 60}
	hours := z
	hours.Hours, hours.Free = []api.Window{{Days: 1, From: 480, To: 1080}}, 0
	paid := func(from, until int) api.Session {
		return api.Session{Zone: "z", Plate: "AB1", From: from, Until: until, State: 3}
	}
	elsewhere, other := paid(0, 9999), paid(0, 9999)
	elsewhere.Zone, other.Plate = "y", "CD2"
	card := api.Permit{Zone: "z", Plates: []string{"AB1"}, Valid: iv(400, 450)}
	wrong := api.Permit{Zone: "y", Plates: []string{"AB1"}, Valid: iv(0, 9999)}
	for i, x := range []struct {
		z        api.Zone
		s        api.Stay
		sessions []api.Session
		permits  []api.Permit
		want     []api.Interval
		e        api.Errno
	}{
		{z, stayOf(100, 500), []api.Session{paid(150, 300)}, nil, []api.Interval{iv(300, 500)}, api.OK}, {z, stayOf(100, 500), nil, nil, []api.Interval{iv(160, 500)}, api.OK}, {z, stayOf(100, 160), nil, nil, nil, api.OK}, {z, stayOf(100, 130), nil, nil, nil, api.OK}, {z, stayOf(100, 161), nil, nil, []api.Interval{iv(160, 161)}, api.OK},
		{z, stayOf(100, 500), []api.Session{paid(200, 300), paid(250, 310), elsewhere, other, paid(-5, 400)}, nil, []api.Interval{iv(160, 200), iv(310, 500)}, api.OK}, {z, stayOf(100, 500), nil, []api.Permit{card, wrong}, []api.Interval{iv(160, 400), iv(450, 500)}, api.OK}, {z, stayOf(100, 500), []api.Session{paid(160, 420)}, []api.Permit{card}, []api.Interval{iv(450, 500)}, api.OK},
		{hours, stayOf(61200, 72000), []api.Session{paid(61200, 63000)}, nil, []api.Interval{iv(63000, 64800)}, api.OK}, {hours, stayOf(64800, 72000), nil, nil, nil, api.OK}, {z, stayOf(0, 366*86400+1), nil, nil, nil, api.ErrLimit},
	} {
		if l, e := Unpaid(x.s, []api.Zone{x.z}, x.sessions, x.permits); !slices.Equal(l, x.want) || e != x.e {
			t.Error(i, l, int(e))
		}
	}
	z.Free = api.MaxTime
	if l, e := Unpaid(stayOf(api.MaxTime-5, api.MaxTime), []api.Zone{z}, nil, nil); len(l) != 0 || e != api.OK {
		t.Error(l, int(e))
	}
}

// P30.5, P30.6
func TestPeak(t *testing.T) {
	l := []api.Stay{stayOf(200, 300), stayOf(100, 500), stayOf(300, 400), {Zone: "y", Time: iv(0, 900)}, {Zone: "z", Time: iv(200, 100)}, {Zone: "z", Time: iv(-9, 900)}}
	if n, first := Peak(l, "z"); n != 2 || first != 200 {
		t.Error(n, first)
	}
	if n, first := Peak(l, "y"); n != 1 || first != 0 {
		t.Error(n, first)
	}
	for _, zone := range []string{"x", ""} {
		if n, first := Peak(l, zone); n != 0 || first != 0 {
			t.Error(zone, n, first)
		}
	}
	if n, first := Peak(l[4:], "z"); n != 0 || first != 0 {
		t.Error(n, first)
	}
	for at, want := range map[int]int{99: 0, 100: 1, 199: 1, 200: 2, 299: 2, 300: 2, 399: 2, 400: 1, 499: 1, 500: 0, -1: 0, math.MaxInt: 0} {
		if n := Present(l, "z", at); n != want {
			t.Error(at, n)
		}
	}
	r := rand.New(rand.NewSource(1))
	for range 500 {
		l := make([]api.Stay, r.Intn(8))
		for i := range l {
			l[i] = api.Stay{Zone: string(rune('y' + r.Intn(2))), Time: iv(r.Intn(20)-1, r.Intn(22))}
		}
		most, first := 0, 0
		for at := range 25 {
			if n := Present(l, "z", at); n > most {
				most, first = n, at
			}
		}
		if n, at := Peak(l, "z"); n != most || at != first {
			t.Fatal(l, n, at, most, first)
		}
	}
}

// P30.7 to P30.9
func TestOnce(t *testing.T) {
	r := rand.New(rand.NewSource(2))
	zones := []api.Zone{{Name: "z", Steps: fee(), Free: 30, Hours: []api.Window{{Days: 127, From: 1, To: 9}}}, {Name: "y", Steps: fee()}}
	for range 800 {
		ps := make([]api.Parked, r.Intn(14))
		for i := range ps {
			ps[i] = api.Parked{Kind: 4 + r.Intn(3), Zone: string(rune('y' + r.Intn(2))), Plate: []string{"AB1", "CD2"}[r.Intn(2)], Time: 30*r.Intn(25) - 30}
		}
		stays, out := Pair(ps)
		count := map[string]int{}
		for i, s := range stays {
			count[s.ID]++
			count[session.Key(api.Parked{Kind: api.EvOut, Zone: s.Zone, Plate: s.Plate, Time: s.Time.To})]++
			if s.ID != ID(s) || Check(s, zones) != api.OK {
				t.Fatal(s)
			}
			for _, o := range stays[:i] {
				if o.Zone == s.Zone && o.Plate == s.Plate && max(o.Time.From, s.Time.From) < min(o.Time.To, s.Time.To) {
					t.Fatal("overlap", o, s)
				}
			}
		}
		for _, e := range out {
			count[e.ID]++
		}
		for _, p := range session.Sort(ps) {
			want := 1
			if p.Kind == api.EvCheck {
				want = 0
			}
			if count[session.Key(p)] != want {
				t.Fatal("not once", p, stays, out)
			}
			delete(count, session.Key(p))
		}
		if len(count) != 0 {
			t.Fatal(count)
		}
		again := append(slices.Clone(ps), ps...)
		r.Shuffle(len(again), func(i, j int) { again[i], again[j] = again[j], again[i] })
		if s, o := Pair(again); !slices.Equal(s, stays) || !slices.Equal(o, out) {
			t.Fatal("the order matters", ps)
		}
		for _, s := range stays {
			sessions := []api.Session{{Zone: "z", Plate: "AB1", From: r.Intn(500), Until: r.Intn(700)}}
			permits := []api.Permit{{Zone: s.Zone, Plates: []string{"CD2"}, Valid: iv(r.Intn(500), r.Intn(700))}}
			l, e := Unpaid(s, zones, sessions, permits)
			z, _ := zone.Find(zones, s.Zone)
			covered, _ := permit.Covered(permits, s.Plate, s.Zone, s.Time)
			for at := s.Time.From - 5; at < s.Time.To+5; at++ {
				want := s.Time.From+z.Free <= at && at < s.Time.To && zone.Open(z, at)
				if x := sessions[0]; x.Zone == s.Zone && x.Plate == s.Plate && x.From <= at && at < x.Until {
					want = false
				}
				has := func(l []api.Interval) bool {
					return slices.ContainsFunc(l, func(i api.Interval) bool { return i.From <= at && at < i.To })
				}
				if has(covered) {
					want = false
				}
				if has(l) != want || e != api.OK {
					t.Fatal(s, sessions, permits, at, l)
				}
			}
		}
	}
}
