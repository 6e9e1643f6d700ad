package trip

import (
	"math/rand"
	"reflect"
	"slices"
	"strconv"
	"strings"
	"testing"

	"tollway/api"
	"tollway/chain"
	"tollway/passage"
)

func link(from, to string, least, greatest int) api.Link {
	return api.Link{From: from, To: to, Min: least, Max: greatest}
}

// top has an open point o, a closed system c from in over mid (of c) or any (of no system) to out, and a closed system d.
func top() api.Topology {
	return api.Topology{
		Net: api.Network{
			Points: []api.Point{{Name: "o", Kind: api.POpen, System: "s"}, {Name: "in", Kind: api.PEntry, System: "c"}, {Name: "in2", Kind: api.PEntry, System: "c"}, {Name: "mid", Kind: api.PCheck, System: "c"}, {Name: "any", Kind: api.PCheck}, {Name: "other", Kind: api.PCheck, System: "s"}, {Name: "out", Kind: api.PExit, System: "c"}, {Name: "din", Kind: api.PEntry, System: "d"}, {Name: "dout", Kind: api.PExit, System: "d"}},
			Links:  []api.Link{link("in", "mid", 100, 400), link("mid", "out", 100, 400), link("o", "din", 10, 50), link("din", "dout", 10, 50), link("dout", "any", 10, 50)},
		},
		Systems: []api.System{{Name: "s"}, {Name: "c", Closed: true, Most: 3600}, {Name: "d", Closed: true, Most: 100}},
	}
}

var number int

func at(point string, time int) api.Passage {
	number++
	return api.Passage{ID: point + "." + strconv.Itoa(number), Point: point, Time: time, Plate: "AB1", Class: 2, Score: 900, Sources: []api.Source{{Device: point, Seq: number}}}
}

// show writes trips and exclusions in a short form.
func show(trips []api.Trip, out []api.Exclusion) string {
	var s []string
	for _, x := range trips {
		var stops []string
		for _, p := range x.Stops {
			mark := ""
			if p.Passage == "" {
				mark = "?"
			}
			stops = append(stops, p.Point+mark+strconv.Itoa(p.Time))
		}
		s = append(s, x.System+":"+strings.Join(stops, ","))
	}
	for _, e := range out {
		s = append(s, strings.Split(e.ID, ".")[0]+"!"+strconv.Itoa(e.Why))
	}
	return strings.Join(s, " ")
}

// P21.1
func TestBuild(t *testing.T) {
	for i, x := range []struct {
		l    []api.Passage
		want string
	}{
		{[]api.Passage{at("in", 100), at("out", 700)}, "c:in100,mid?400,out700"}, {[]api.Passage{at("in", 100), at("in2", 400), at("out", 900)}, "c:in2400,out900 in!11"}, {[]api.Passage{at("out", 100)}, "out!10"}, {nil, ""},
		{[]api.Passage{at("in", 100), at("out", 3700)}, "c:in100,out3700"}, {[]api.Passage{at("in", 100), at("out", 3701)}, "in!11 out!10"}, {[]api.Passage{at("in", 100), at("mid", 200), at("any", 600), at("out", 900)}, "c:in100,mid200,any600,out900"}, {[]api.Passage{at("in", 100)}, "in!11"}, {[]api.Passage{at("in", 100), at("mid", 200)}, "in!11 mid!11"},
		{[]api.Passage{at("mid", 200), at("any", 800), at("other", 1200)}, "any!12 mid!12 other!12"}, {[]api.Passage{at("in", 100), at("other", 600), at("out", 1200)}, "c:in100,out1200 other!12"}, {[]api.Passage{at("in", 100), at("o", 600), at("out", 1200)}, "c:in100,out1200 s:o600"}, {[]api.Passage{at("o", 50), at("o", 110)}, "s:o50 s:o110"},
		{[]api.Passage{at("in", 100), at("dout", 600), at("out", 1200)}, "dout!10 in!11 out!10"}, {[]api.Passage{at("x", 100), at("o", 120)}, "s:o120 x!3"}, {[]api.Passage{at("in", 100), at("mid", 150), at("out", 700)}, "c:in100,mid?400,out700 mid!9"}, {[]api.Passage{at("in", 100), at("out", 500), at("out", 800)}, "c:in100,mid?300,out500 out!10"},
		// Inferred stops: a whole journey that nobody saw, and an entry that nobody saw.
		{[]api.Passage{at("o", 100), at("any", 130)}, "s:o100 d:din?110,dout?120 any!12"}, {[]api.Passage{at("o", 100), at("dout", 150)}, "s:o100 d:din?125,dout150"}, {[]api.Passage{at("din", 100), at("any", 150)}, "d:din100,dout?125 any!12"},
		{[]api.Passage{at("in", 1000), at("o", 2000), at("dout", 2050), at("out", 3000)}, "s:o2000 d:din?2025,dout2050 in!11 out!10"},
	} {
		r := rand.New(rand.NewSource(int64(i)))
		r.Shuffle(len(x.l), func(i, j int) { x.l[i], x.l[j] = x.l[j], x.l[i] })
		before := slices.Clone(x.l)
		if s := show(Build(top(), x.l)); s != x.want {
			t.Error(i, s, "want", x.want)
		}
		if s := show(All(top(), x.l)); s != x.want {
			t.Error("All", i, s)
		}
		if !reflect.DeepEqual(before, x.l) {
			t.Error("changed")
		}
	}
}

// P21.1: identifiers, classes and vehicles
func TestFields(t *testing.T) {
	a, b := at("in", 100), at("out", 700)
	trips, _ := Build(top(), []api.Passage{b, a})
	want := api.Trip{ID: a.ID, Vehicle: "AB1", System: "c", Class: 2, Stops: []api.Stop{{Point: "in", Time: 100, Passage: a.ID}, {Point: "mid", Time: 400}, {Point: "out", Time: 700, Passage: b.ID}}}
	if len(trips) != 1 || !reflect.DeepEqual(trips[0], want) {
		t.Error(trips)
	}
	o, any := at("o", 100), at("any", 130)
	trips, _ = Build(top(), []api.Passage{o, any})
	if len(trips) != 2 || trips[0].ID != o.ID || trips[1].ID != o.ID+"+din" || trips[1].Class != 1 || trips[1].System != "d" {
		t.Error(trips)
	}
	d := at("dout", 150)
	trips, _ = Build(top(), []api.Passage{o, d})
	if len(trips) != 2 || trips[1].ID != d.ID || trips[1].Class != 2 {
		t.Error(trips)
	}
	// The class is the majority; unknown classes do not count.
	for _, x := range [][4]int{{3, 2, 2, 2}, {3, 2, 4, 2}, {0, 0, 0, 1}, {0, 0, 5, 5}, {10, 10, 7, 7}, {1, 9, 9, 9}} {
		in, mid, out := at("in", 100), at("mid", 300), at("out", 700)
		in.Class, mid.Class, out.Class = x[0], x[1], x[2]
		trips, _ := Build(top(), []api.Passage{in, mid, out})
		if len(trips) != 1 || trips[0].Class != x[3] {
			t.Error(x, trips)
		}
	}
	// The first passage with a tag names the vehicle.
	a.Tag, b.Tag = "", "T"
	if trips, _ := Build(top(), []api.Passage{a, b}); trips[0].Vehicle != "T" {
		t.Error(trips)
	}
	a.Tag = "U"
	if trips, _ := Build(top(), []api.Passage{b, a}); trips[0].Vehicle != "U" {
		t.Error(trips)
	}
	// Of passages with the same ID only the first one counts.
	x, y := at("o", 100), at("o", 200)
	y.ID = x.ID
	if trips, out := Build(top(), []api.Passage{y, x}); len(trips) != 1 || trips[0].Stops[0].Time != 100 || len(out) != 0 {
		t.Error(trips, out)
	}
	y.Plate = "CD2"
	if trips, out := All(top(), []api.Passage{y, x}); len(trips) != 1 || trips[0].Vehicle != "AB1" || len(out) != 0 {
		t.Error(trips, out)
	}
}

// P21.2, P21.8
func TestAll(t *testing.T) {
	a, b, c, d := at("in", 100), at("out", 900), at("in", 150), at("out", 750)
	a.Tag, b.Tag, c.Plate, d.Plate = "T", "T", "CD2", "CD2"
	e := at("o", 450) // it belongs to T, whose plate it has
	l := []api.Passage{d, b, e, c, a, at("x", 1)}
	trips, out := All(top(), l)
	if s := show(trips, out); s != "c:in100,out900 c:in150,mid?450,out750 s:o450 x!3" || trips[0].Vehicle != "T" || trips[1].Vehicle != "CD2" || trips[2].Vehicle != "T" {
		t.Error(s, trips)
	}
	alone, _ := All(top(), []api.Passage{d, c})
	if !reflect.DeepEqual(alone, trips[1:2]) {
		t.Error(alone)
	}
	if trips, out := All(api.Topology{}, l); len(trips) != 0 || len(out) != len(l) {
		t.Error(trips, out)
	}
}

// P21.3
func TestCheck(t *testing.T) {
	stop := func(point string, time int, passage string) api.Stop {
		return api.Stop{Point: point, Time: time, Passage: passage}
	}
	for i, x := range []struct {
		change func(x *api.Trip)
		e      api.Errno
	}{
		{func(x *api.Trip) {}, api.OK}, {func(x *api.Trip) { x.ID, x.Class = "", 0 }, api.ErrName}, {func(x *api.Trip) { x.Vehicle = "" }, api.ErrName}, {func(x *api.Trip) { x.Class, x.Stops = 0, nil }, api.ErrClass}, {func(x *api.Trip) { x.Class = 10 }, api.ErrClass}, {func(x *api.Trip) { x.Class = 9 }, api.OK}, {func(x *api.Trip) { x.Stops = nil }, api.ErrArg},
		{func(x *api.Trip) { x.Stops[1] = stop("x", -1, "") }, api.ErrPoint}, {func(x *api.Trip) { x.Stops[1].Time = -1 }, api.ErrTime}, {func(x *api.Trip) { x.Stops[2].Time = api.MaxTime }, api.ErrTime}, {func(x *api.Trip) { x.Stops[1].Time = 99 }, api.ErrOrder}, {func(x *api.Trip) { x.Stops[1].Time = 100 }, api.OK}, {func(x *api.Trip) { x.Stops[0].Time, x.Stops[2].Point = 500, "x" }, api.ErrOrder},
		{func(x *api.Trip) { x.System, x.Stops = "s", x.Stops[:1] }, api.ErrName}, {func(x *api.Trip) { x.Stops = x.Stops[:1] }, api.ErrArg}, {func(x *api.Trip) { x.Stops = x.Stops[:2] }, api.ErrArg}, {func(x *api.Trip) { x.Stops[2].Point = "dout" }, api.ErrArg}, {func(x *api.Trip) { x.Stops[1].Point = "o" }, api.ErrArg}, {func(x *api.Trip) { x.Stops[1].Point = "any" }, api.OK}, {func(x *api.Trip) { x.Stops[1].Point = "in" }, api.ErrArg}, {func(x *api.Trip) { x.System, x.Stops[0].Point = "", "any" }, api.ErrArg},
		{func(x *api.Trip) { x.Stops[2].Time = 3700 }, api.OK}, {func(x *api.Trip) { x.Stops[2].Time, x.ID = 3701, "z" }, api.ErrTime}, {func(x *api.Trip) { x.ID = "b" }, api.ErrName}, {func(x *api.Trip) { x.Stops[0].Passage = "" }, api.ErrName}, {func(x *api.Trip) { x.Stops[0].Passage, x.ID = "", "b" }, api.OK}, {func(x *api.Trip) { x.Stops[0].Passage, x.Stops[2].Passage, x.ID = "", "", "any" }, api.OK},
		{func(x *api.Trip) { x.System, x.Stops = "s", []api.Stop{stop("o", 5, "a")} }, api.OK}, {func(x *api.Trip) { x.System, x.Stops = "s", []api.Stop{stop("o", api.MaxTime, "a")} }, api.ErrTime}, {func(x *api.Trip) { x.System, x.Stops = "s", []api.Stop{stop("o", api.MaxTime-1, "a")} }, api.OK}, {func(x *api.Trip) { x.Stops = []api.Stop{stop("in", 0, "a"), stop("out", 3600, "b")} }, api.OK}, {func(x *api.Trip) { x.Stops = []api.Stop{stop("in", 0, "a"), stop("out", 3601, "b")} }, api.ErrTime}, {func(x *api.Trip) { x.System, x.Stops = "s", []api.Stop{stop("o", 5, "a"), stop("o", 6, "b")} }, api.ErrArg},
	} {
		trip := api.Trip{ID: "a", Vehicle: "AB1", System: "c", Class: 1, Stops: []api.Stop{stop("in", 100, "a"), stop("mid", 200, ""), stop("out", 300, "b")}}
		x.change(&trip)
		if e := Check(top(), trip); e != x.e {
			t.Error(i, int(e))
		}
	}
	if e := Check(api.Topology{}, api.Trip{ID: "a", Vehicle: "b", Class: 1, Stops: []api.Stop{{}}}); e != api.ErrPoint {
		t.Error(int(e))
	}
}

// P21.4, P21.5
func TestParts(t *testing.T) {
	x := api.Trip{ID: "z", Stops: []api.Stop{{Time: 5}, {Time: 7, Passage: "a"}, {Time: 8}, {Time: 9, Passage: "b"}}}
	if ID(x) != "a" || ID(api.Trip{ID: "z", Stops: x.Stops[:1]}) != "z" || ID(api.Trip{}) != "" {
		t.Error(ID(x))
	}
	if l := Passages(x); !slices.Equal(l, []string{"a", "b"}) {
		t.Error(l)
	}
	if l := Passages(api.Trip{}); len(l) != 0 {
		t.Error(l)
	}
	if i := Span(x); i != (api.Interval{From: 5, To: 10}) {
		t.Error(i)
	}
	if i := Span(api.Trip{ID: "z"}); i != (api.Interval{}) {
		t.Error(i)
	}
}

// P21.6 to P21.8
func TestOnce(t *testing.T) {
	r := rand.New(rand.NewSource(1))
	names := []string{"o", "in", "in2", "mid", "any", "other", "out", "din", "dout", "x"}
	for range 1500 {
		l := make([]api.Passage, r.Intn(12))
		for i := range l {
			l[i] = at(names[r.Intn(len(names))], 20*r.Intn(60))
			l[i].Plate = []string{"AB1", "CD2"}[r.Intn(2)]
			l[i].Class = r.Intn(10)
		}
		trips, out := All(top(), l)
		count := map[string]int{}
		why := map[string]int{}
		for i, x := range trips {
			if e := Check(top(), x); e != api.OK {
				t.Fatal(x, int(e))
			}
			if i > 0 && (trips[i-1].Stops[0].Time > x.Stops[0].Time || trips[i-1].Stops[0].Time == x.Stops[0].Time && trips[i-1].ID >= x.ID) {
				t.Fatal("order", trips)
			}
			for _, id := range Passages(x) {
				count[id]++
			}
		}
		for i, e := range out {
			count[e.ID]++
			why[e.ID] = e.Why
			if i > 0 && out[i-1].ID >= e.ID {
				t.Fatal("order", out)
			}
		}
		for _, p := range l {
			if count[p.ID] != 1 {
				t.Fatal("not once", p, trips, out)
			}
		}
		for _, v := range []string{"AB1", "CD2"} {
			var rest []api.Passage
			for _, p := range passage.Of(l, v) {
				if why[p.ID] != api.WhyForm && why[p.ID] != api.WhyClone {
					rest = append(rest, p)
				}
			}
			if !chain.Feasible(top(), rest) {
				t.Fatal("not feasible", rest)
			}
			own, _ := Build(top(), passage.Of(l, v))
			var want []api.Trip
			for _, x := range trips {
				if x.Vehicle == v {
					want = append(want, x)
				}
			}
			if len(own)+len(want) > 0 && !reflect.DeepEqual(own, want) {
				t.Fatal(v, own, want)
			}
		}
	}
}
