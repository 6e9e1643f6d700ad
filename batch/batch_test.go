package batch

import (
	"math/rand"
	"reflect"
	"slices"
	"strconv"
	"strings"
	"testing"

	"tollway/api"
	"tollway/detect"
	"tollway/event"
	"tollway/fresh"
	"tollway/fuse"
	"tollway/sample"
	"tollway/session"
	"tollway/stay"
	"tollway/trip"
)

const day = 86400

// P47.1: each part of the configuration, in its order
func TestCheck(t *testing.T) {
	changes := []struct {
		change func(c *api.Config)
		e      api.Errno
	}{
		{func(c *api.Config) { c.Top.Net.Points[0].Name = "X" }, api.ErrName},
		{func(c *api.Config) { c.Top.Systems[1].Most = 0 }, api.ErrTime},
		{func(c *api.Config) { c.Devices[1].Name = c.Devices[0].Name }, api.ErrExists},
		{func(c *api.Config) { c.Devices[5].Point = "x" }, api.ErrPoint},
		{func(c *api.Config) { c.Classes[1].From = 2 }, api.ErrOrder},
		{func(c *api.Config) { c.Tags[0].Tag = "x" }, api.ErrTag},
		{func(c *api.Config) { c.Gap = -1 }, api.ErrTime},
		{func(c *api.Config) { c.Gap = 3601 }, api.ErrTime},
		{func(c *api.Config) { c.Weak = -1 }, api.ErrArg},
		{func(c *api.Config) { c.Weak = 1001 }, api.ErrArg},
		{func(c *api.Config) { c.Tariffs[0].Rates[0].Class = 0 }, api.ErrClass},
		{func(c *api.Config) { c.Scale.Down[0] = 2 }, api.ErrArg},
		{func(c *api.Config) { c.Discounts = make([]api.Discount, 13) }, api.ErrLimit},
		{func(c *api.Config) { c.Discounts[0].Least = -1 }, api.ErrRange},
		{func(c *api.Config) { c.Caps = make([]api.Cap, 13) }, api.ErrLimit},
		{func(c *api.Config) { c.Caps = append(c.Caps, api.Cap{Name: "x", Cents: -1}) }, api.ErrMoney},
		{func(c *api.Config) { c.Zones = append(c.Zones, c.Zones[0]) }, api.ErrExists},
		{func(c *api.Config) { c.Permits = make([]api.Permit, 1025) }, api.ErrLimit},
		{func(c *api.Config) { c.Permits[0].Zone = "x" }, api.ErrZone},
		{func(c *api.Config) { c.Accounts[1].Agency = "X" }, api.ErrAgency},
		{func(c *api.Config) { c.Reliefs[0].Part = 1001 }, api.ErrArg},
		{func(c *api.Config) { c.Holidays = make([]int, 1025) }, api.ErrLimit},
		{func(c *api.Config) { c.Holidays = []int{4, 4} }, api.ErrOrder},
		{func(c *api.Config) { c.Law.Limit = 0 }, api.ErrTime},
		{func(c *api.Config) { c.Keeping = append(c.Keeping, c.Keeping[0]) }, api.ErrExists},
		{func(c *api.Config) { c.Agency = "" }, api.ErrName},
	}
	if e := Check(sample.Config()); e != api.OK {
		t.Error(int(e))
	}
	for i, x := range changes {
		c := sample.Config()
		x.change(&c)
		if e := Check(c); e != x.e {
			t.Error(i, int(e))
		}
		if r, e := Run(c, make([]api.Event, 2000)); e != x.e || !reflect.DeepEqual(r, api.Result{}) {
			t.Error("Run", i, int(e))
		}
		for _, y := range changes[i+1:] { // a later part does not matter, unless it repairs the earlier one
			d := sample.Config()
			y.change(&d)
			x.change(&d)
			if e := Check(d); e != x.e {
				t.Error(i, int(e), "the error of a later part", int(y.e))
			}
		}
	}
	c := sample.Config()
	c.Discounts, c.Permits, c.Holidays = nil, nil, nil
	for i := range api.MaxList {
		p := sample.Config().Permits[0]
		p.Name = "p" + strconv.Itoa(i)
		c.Permits, c.Holidays = append(c.Permits, p), append(c.Holidays, i)
	}
	for i := range api.MaxGroup {
		c.Discounts = append(c.Discounts, api.Discount{Name: "d" + strconv.Itoa(i), Kind: api.KFree})
	}
	if e := Check(c); e != api.OK {
		t.Error("the limits are permitted", int(e))
	}
	c = sample.Config()
	c.Gap, c.Weak, c.Holidays = 3600, 1000, []int{-5, 0, 99999999}
	if e := Check(c); e != api.OK {
		t.Error(int(e))
	}
	c.Gap, c.Weak, c.Caps = 0, 0, slices.Repeat(c.Caps, 12)
	if e := Check(c); e != api.OK {
		t.Error(int(e))
	}
}

func run(t *testing.T, c api.Config, es ...api.Event) api.Result {
	t.Helper()
	r, e := Run(c, es)
	if e != api.OK {
		t.Fatal(int(e))
	}
	return r
}

// keys writes charges and exclusions in a short form.
func keys(r api.Result) string {
	var s []string
	for _, x := range r.Charges {
		s = append(s, x.Key+"="+strconv.Itoa(x.Cents))
	}
	for _, x := range r.Exclusions {
		s = append(s, x.ID+"!"+strconv.Itoa(x.Why))
	}
	return strings.Join(s, " ")
}

// P47.2, P47.4: trips
func TestTrips(t *testing.T) {
	tag := sample.Tag(1)
	three := sample.Config()
	three.Caps[0].Cents, three.Discounts[0].Least = 900, 1
	free := sample.Config()
	free.Discounts[0] = api.Discount{Name: "free", Kind: api.KFree}
	for i, x := range []struct {
		c    api.Config
		es   []api.Event
		want string
	}{
		{sample.Config(), []api.Event{sample.Detect("topen", 1, 50, tag, 0), sample.Detect("copen", 2, 53, "AB12", 0)}, "t:copen.2=400"},
		{sample.Config(), []api.Event{sample.Detect("topen", 1, 27000, tag, 0)}, "t:topen.1=600"},
		{sample.Config(), []api.Event{sample.Detect("topen", 1, 27000+19*day, tag, 0), sample.Detect("topen", 2, 20*day, tag, 0)}, "t:topen.1=400 topen.2!13"},
		{sample.Config(), []api.Event{sample.Detect("copen", 2, 53, "AB12", 0), sample.Detect("lopen", 3, 54, "", 3)}, "copen.2!13"},
		{sample.Config(), []api.Event{sample.Detect("tin", 1, 100, tag, 0), sample.Detect("tout", 2, 700, tag, 0)}, "t:tin.1=1000"},
		{sample.Config(), []api.Event{sample.Detect("cin", 1, 100, "FD112", 0), sample.Detect("cout", 2, 700, "FD112", 0)}, "cin.1!15 cout.2!15"},
		{sample.Config(), []api.Event{sample.Detect("tin", 1, 5*day, tag, 0), sample.Detect("tout", 2, 5*day+600, tag, 0)}, "tin.1!14 tout.2!14"},
		{sample.Config(), []api.Event{sample.Detect("tout", 2, 700, tag, 0), sample.Detect("tin", 1, 700, "x", 0)}, "tout.2!10"},
		{three, []api.Event{sample.Detect("topen", 1, 0, tag, 0), sample.Detect("topen", 2, 400, tag, 0), sample.Detect("topen", 3, 800, tag, 0), sample.Detect("topen", 4, day, tag, 0)}, "t:topen.1=400 t:topen.2=360 t:topen.3=140 t:topen.4=360"},
		{free, []api.Event{sample.Detect("topen", 1, 0, tag, 0)}, "t:topen.1=0"},
		// Two loops in a period of 600 seconds raise the level of the next one.
		{sample.Config(), []api.Event{sample.Detect("lopen", 1, 10, "", 2), sample.Detect("lopen", 2, 300, "", 2), sample.Detect("topen", 3, 599, tag, 0), sample.Detect("topen", 4, 700, tag, 0)}, "t:topen.3=400 t:topen.4=600"},
		{sample.Config(), []api.Event{sample.Detect("lin", 1, 10, "", 2), sample.Detect("lin", 2, 300, "", 2), sample.Detect("topen", 4, 700, tag, 0)}, "t:topen.4=400"},
		// The level is that of the entry, at the time of the entry.
		{sample.Config(), []api.Event{sample.Detect("lin", 1, 10, "", 2), sample.Detect("lin", 2, 300, "", 2), sample.Detect("tin", 3, 700, tag, 0), sample.Detect("tout", 4, 1300, tag, 0)}, "t:tin.3=1500"},
		// An exempt account that owns the vehicle only earlier does not matter.
		{sample.Config(), []api.Event{sample.Detect("copen", 1, 100*day+5, "FD112", 0)}, "copen.1!13"},
	} {
		if s := keys(run(t, x.c, x.es...)); s != x.want {
			t.Error(i, s)
		}
	}
}

// P47.4: sessions and stays
func TestParking(t *testing.T) {
	mon := 8 * 3600
	key := func(e api.Event) string { return session.Key(e.Park) }
	start := sample.Park(api.EvStart, "AB12", mon, mon+3600)
	in, out := sample.Park(api.EvIn, "XY99", mon, 0), sample.Park(api.EvOut, "XY99", mon+1800, 0)
	night := sample.Park(api.EvStart, "AB12", 100, 700)
	for i, x := range []struct {
		es   []api.Event
		want string
	}{
		{[]api.Event{start}, "p:" + key(start) + "=300"},
		{[]api.Event{start, sample.Park(api.EvStop, "AB12", mon+1800, 0)}, "p:" + key(start) + "=150"},
		{[]api.Event{start, sample.Park(api.EvStop, "AB12", mon, 0)}, key(start) + "!18"},
		{[]api.Event{night}, key(night) + "!18"},
		{[]api.Event{in, out}, "p:" + key(in) + "=100"},
		{[]api.Event{in, sample.Park(api.EvOut, "XY99", mon+600, 0)}, key(in) + "!18"},
		{[]api.Event{in, sample.Park(api.EvOut, "XY99", mon+601, 0)}, "p:" + key(in) + "=50"},
		{[]api.Event{in, sample.Park(api.EvOut, "XY99", mon+400*day, 0)}, key(in) + "!13"},
		{[]api.Event{in}, key(in) + "!11"},
		{[]api.Event{out}, key(out) + "!10"},
		{[]api.Event{start, sample.Park(api.EvIn, "AB12", mon, 0), sample.Park(api.EvOut, "AB12", mon+7200, 0)}, "p:" + key(start) + "=300 p:" + key(sample.Park(api.EvIn, "AB12", mon, 0)) + "=300"},
		{[]api.Event{sample.Park(api.EvIn, "CD34", mon, 0), sample.Park(api.EvOut, "CD34", mon+7200, 0)}, key(sample.Park(api.EvIn, "CD34", mon, 0)) + "!18"},
		{[]api.Event{sample.Park(api.EvExtend, "AB12", mon, mon+60)}, key(sample.Park(api.EvExtend, "AB12", mon, mon+60)) + "!4"},
		{[]api.Event{sample.Park(api.EvStart, "ab", mon, mon+60), sample.Park(9, "AB12", mon, 0)}, ""}, // session.Check refuses these
	} {
		if s := keys(run(t, sample.Config(), x.es...)); s != x.want {
			t.Error(i, s, "want", x.want)
		}
	}
}

// P47.2: what is ignored, and the limit
func TestRun(t *testing.T) {
	c := sample.Config()
	good := sample.Detect("topen", 1, 50, sample.Tag(1), 0)
	odd := good
	odd.Day = 1
	many := slices.Repeat([]api.Event{good}, api.MaxList)
	want := run(t, c, good)
	if r := run(t, c, append(many[:1000:1000], odd, api.Event{Kind: api.IClose, Day: 9}, api.Event{Kind: api.IPay, Name: "ann", Cents: 5}, api.Event{Kind: api.ILate}, api.Event{})...); !Same(r, want) || len(r.Charges) != 1 {
		t.Error(r)
	}
	if r, e := Run(c, append(many, good)); e != api.ErrLimit || !reflect.DeepEqual(r, api.Result{}) {
		t.Error(int(e))
	}
	if r, e := Run(c, many); e != api.OK || !Same(r, want) {
		t.Error(int(e))
	}
	if r := run(t, c); !Same(r, api.Result{}) {
		t.Error(r)
	}
	two := run(t, c, good, sample.Detect("topen", 1, 51, sample.Tag(1), 0))
	if len(two.Passages) != 0 || len(two.Rejects) != 2 || two.Rejects[0].Why != api.WhyConflict {
		t.Error(two)
	}
}

// P47.3, P47.4: the error of bill.Capped
func TestErrors(t *testing.T) {
	c := sample.Config()
	c.Tariffs[0].Valid.To = api.MaxTime
	seen := []api.Seen{{D: api.Detection{Device: "topen", Tag: sample.Tag(1), Score: 1000}, Time: api.MaxDay * 86400, Point: "open", Kind: api.DTag}}
	if r, e := Finish(c, seen, nil, nil); e != api.ErrTime || !reflect.DeepEqual(r, api.Result{}) {
		t.Error(r, int(e))
	}
	trips := slices.Repeat([]api.Trip{{ID: "x", Vehicle: "v", Class: 1, Stops: []api.Stop{{Point: "open"}}}}, api.MaxList+1)
	if a, b, e := Charges(c, trips, nil, nil, nil); len(a)+len(b) != 0 || e != api.ErrLimit {
		t.Error(len(a), len(b), int(e))
	}
	// Any trips and stays are accepted.
	a, b, e := Charges(c, []api.Trip{{ID: "x"}, {ID: "y", Class: 7, Stops: []api.Stop{{Point: "open"}}}}, []api.Stay{{ID: "s"}}, []api.Session{{ID: "t"}, {ID: "u", Zone: "x", From: 1, Until: 2}}, nil)
	if len(a) != 0 || e != api.OK || !slices.Equal(b, []api.Exclusion{{ID: "x", Why: 13}, {ID: "y", Why: 13}, {ID: "t", Why: 18}, {ID: "u", Why: 13}, {ID: "s", Why: 13}}) {
		t.Error(a, b, int(e))
	}
}

// P47.3: the result is composed of the layers' results
func TestFinish(t *testing.T) {
	r := rand.New(rand.NewSource(1))
	for range 100 {
		c := sample.Config()
		var ds []api.Detection
		var ps []api.Parked
		for range r.Intn(100) {
			e := sample.Input(r.Intn)
			if e.Kind == api.IDetect {
				ds = append(ds, e.Detect)
			} else if session.Check(e.Park, c.Zones) == api.OK {
				ps = append(ps, e.Park)
			}
		}
		seen, rejects := detect.Sift(c.Devices, ds)
		x, e := Finish(c, seen, rejects, ps)
		if e != api.OK {
			t.Fatal(int(e))
		}
		passages, more := fuse.All(c, seen)
		trips, out := trip.All(c.Top, passages)
		var early, gates []api.Parked
		for _, p := range ps {
			if p.Kind <= api.EvCheck {
				early = append(early, p)
			} else {
				gates = append(gates, p)
			}
		}
		sessions, out2 := session.All(early, c.Zones)
		stays, out3 := stay.Pair(gates)
		charges, out4, _ := Charges(c, trips, stays, sessions, seen)
		want := api.Result{Passages: passages, Rejects: slices.Concat(rejects, more), Trips: trips, Stays: stays, Charges: charges, Exclusions: slices.Concat(out, out2, out3, out4)}
		slices.SortFunc(want.Rejects, func(a, b api.Reject) int {
			if detect.Less(a, b) {
				return -1
			}
			return 1
		})
		slices.SortFunc(want.Exclusions, func(a, b api.Exclusion) int {
			return 100*strings.Compare(a.ID, b.ID) + a.Why - b.Why
		})
		if !Same(x, want) {
			t.Fatal(x, want)
		}
	}
}

// P47.5
func TestSame(t *testing.T) {
	full := func() api.Result {
		return api.Result{
			Passages:   []api.Passage{{ID: "a", Sources: []api.Source{{Device: "d", Seq: 1}}}},
			Rejects:    []api.Reject{{Why: 1}},
			Trips:      []api.Trip{{ID: "a", Stops: []api.Stop{{Point: "p"}}}},
			Stays:      []api.Stay{{ID: "s"}},
			Charges:    []api.Charge{{Key: "k", Lines: []api.Line{{Text: "x", Cents: 1}}}},
			Exclusions: []api.Exclusion{{ID: "e", Why: 1}},
		}
	}
	if !Same(full(), full()) || !Same(api.Result{}, api.Result{Stays: []api.Stay{}}) {
		t.Error("the same results")
	}
	for i, change := range []func(r *api.Result){
		func(r *api.Result) { r.Passages[0].ID = "" }, func(r *api.Result) { r.Passages[0].Point = "x" }, func(r *api.Result) { r.Passages[0].Time = 1 }, func(r *api.Result) { r.Passages[0].Tag = "x" }, func(r *api.Result) { r.Passages[0].Plate = "x" }, func(r *api.Result) { r.Passages[0].Class = 1 }, func(r *api.Result) { r.Passages[0].Score = 1 }, func(r *api.Result) { r.Passages[0].Sources[0].Seq = 2 }, func(r *api.Result) { r.Passages[0].Sources = nil }, func(r *api.Result) { r.Passages = append(r.Passages, api.Passage{}) },
		func(r *api.Result) { r.Rejects[0].Why = 2 }, func(r *api.Result) { r.Rejects = nil }, func(r *api.Result) { r.Trips[0].ID = "x" }, func(r *api.Result) { r.Trips[0].Vehicle = "x" }, func(r *api.Result) { r.Trips[0].System = "x" }, func(r *api.Result) { r.Trips[0].Class = 1 }, func(r *api.Result) { r.Trips[0].Stops[0].Time = 1 }, func(r *api.Result) { r.Trips[0].Stops = nil }, func(r *api.Result) { r.Trips = nil }, func(r *api.Result) { r.Stays[0].Plate = "x" }, func(r *api.Result) { r.Stays = nil },
		func(r *api.Result) { r.Charges[0].Key = "x" }, func(r *api.Result) { r.Charges[0].Vehicle = "x" }, func(r *api.Result) { r.Charges[0].System = "x" }, func(r *api.Result) { r.Charges[0].Class = 1 }, func(r *api.Result) { r.Charges[0].Time = 1 }, func(r *api.Result) { r.Charges[0].Cents = 1 }, func(r *api.Result) { r.Charges[0].Lines[0].Text = "y" }, func(r *api.Result) { r.Charges[0].Lines = nil }, func(r *api.Result) { r.Charges = nil }, func(r *api.Result) { r.Exclusions[0].ID = "x" }, func(r *api.Result) { r.Exclusions = nil },
	} {
		r := full()
		change(&r)
		if Same(r, full()) || Same(full(), r) {
			t.Error(i)
		}
	}
}

// P47.6
func TestFates(t *testing.T) {
	stops := func(ids ...string) []api.Stop {
		var l []api.Stop
		for _, id := range ids {
			l = append(l, api.Stop{Passage: id})
		}
		return l
	}
	r := api.Result{
		Trips:      []api.Trip{{ID: "a", Stops: stops("a", "", "b")}, {ID: "c", Stops: stops("c")}, {ID: "d", Stops: stops("b")}, {ID: "a", Stops: stops("b")}},
		Charges:    []api.Charge{{Key: "t:d"}, {Key: "t:a"}, {Key: "a"}, {Key: "t:a"}, {Key: "t:x"}, {Key: "p:c"}},
		Exclusions: []api.Exclusion{{ID: "b", Why: 9}, {ID: "c", Why: 13}, {ID: "b", Why: 10}, {ID: "b", Why: 9}, {ID: "", Why: 5}},
	}
	for id, want := range map[string]string{"a": "t:a t:a", "b": "t:a t:a t:d x:10 x:9 x:9", "c": "x:13", "x": "", "": "x:5"} {
		if s := strings.Join(Fates(r, id), " "); s != want {
			t.Error(id, s)
		}
	}
}

// P47.7 to P47.10
func TestConsequences(t *testing.T) {
	r := rand.New(rand.NewSource(2))
	for range 60 {
		c := sample.Config()
		var es []api.Event
		for range r.Intn(120) {
			es = append(es, sample.Event(r.Intn))
		}
		x := run(t, c, es...)
		again := append(slices.Clone(es), es...)
		r.Shuffle(len(again), func(i, j int) { again[i], again[j] = again[j], again[i] })
		before := fresh.Config(c)
		if y := run(t, c, again...); !Same(x, y) || !reflect.DeepEqual(before, c) {
			t.Fatal("the order matters")
		}
		for _, p := range x.Passages {
			if f := Fates(x, p.ID); len(f) != 1 {
				t.Fatal("fates", p, f)
			}
		}
		count := map[api.Detection]int{}
		bySource := map[api.Source]int{}
		for _, p := range x.Passages {
			for _, s := range p.Sources {
				bySource[s]++
			}
		}
		for _, d := range x.Rejects {
			count[d.D]++
		}
		for _, e := range es {
			if d := e.Detect; e.Kind == api.IDetect && event.Right(e) {
				n := count[d]
				if n == 0 {
					n = bySource[api.Source{Device: d.Device, Seq: d.Seq}]
				}
				if n != 1 {
					t.Fatal("not once", d, n)
				}
			}
		}
		var alone []api.Event
		for _, e := range es {
			if e.Kind == api.IDetect && strings.HasSuffix(e.Detect.Device, "open") {
				alone = append(alone, e)
			}
		}
		var want []api.Passage
		for _, p := range x.Passages {
			if p.Point == "open" {
				want = append(want, p)
			}
		}
		if y := run(t, c, alone...); !Same(api.Result{Passages: y.Passages}, api.Result{Passages: want}) {
			t.Fatal("not apart")
		}
	}
}
