package topology

import (
	"math"
	"math/rand"
	"slices"
	"strings"
	"testing"

	"tollway/api"
)

func at(point string, time int) api.Passage { return api.Passage{Point: point, Time: time} }

func link(from, to string, least, greatest int) api.Link {
	return api.Link{From: from, To: to, Min: least, Max: greatest}
}

// example has the open system s with a and b, and the closed system c with an entry, an exit and a check point between them.
func example() api.Topology {
	return api.Topology{
		Net: api.Network{
			Points: []api.Point{{Name: "b", Kind: api.POpen, System: "s"}, {Name: "a", Kind: api.POpen, System: "s"}, {Name: "in", Kind: api.PEntry, System: "c"}, {Name: "out", Kind: api.PExit, System: "c"}, {Name: "mid", Kind: api.PCheck, System: "c"}, {Name: "any", Kind: api.PCheck}},
			Links:  []api.Link{link("a", "b", 30, 90), link("in", "mid", 10, 20), link("mid", "out", 10, 20), link("in", "any", 15, 30), link("any", "out", 15, 30)},
		},
		Systems: []api.System{{Name: "s"}, {Name: "c", Closed: true, Most: 3600}},
	}
}

// P18.1
func TestCheck(t *testing.T) {
	many := func(n int) []api.System {
		l := []api.System{{Name: "s"}, {Name: "c", Closed: true, Most: 3600}}
		for i := range n {
			l = append(l, api.System{Name: "x" + string(rune('a'+i%26)) + string(rune('a'+i/26))})
		}
		return l
	}
	for i, x := range []struct {
		change func(t *api.Topology)
		e      api.Errno
	}{
		{func(t *api.Topology) {}, api.OK}, {func(t *api.Topology) { t.Net.Links[0].From, t.Systems = "x", many(63) }, api.ErrPoint}, {func(t *api.Topology) { t.Systems = many(62) }, api.OK}, {func(t *api.Topology) { t.Systems = append(many(62), api.System{}) }, api.ErrLimit},
		{func(t *api.Topology) { t.Systems[1] = api.System{Name: "C", Most: -1} }, api.ErrName}, {func(t *api.Topology) { t.Systems = append(t.Systems, api.System{Name: "s", Most: -1}) }, api.ErrExists}, {func(t *api.Topology) { t.Systems[0].Most = -1 }, api.ErrTime}, {func(t *api.Topology) { t.Systems[0].Most = api.MaxNumber }, api.OK}, {func(t *api.Topology) { t.Systems[0].Most = api.MaxNumber + 1 }, api.ErrTime}, {func(t *api.Topology) { t.Systems[1].Most = 0 }, api.ErrTime}, {func(t *api.Topology) { t.Systems[1].Most = 1 }, api.OK},
		{func(t *api.Topology) { t.Net.Points[0].System = "" }, api.ErrPoint}, {func(t *api.Topology) { t.Net.Points[0].System = "c" }, api.ErrPoint}, {func(t *api.Topology) { t.Net.Points[0].System = "x" }, api.ErrPoint}, {func(t *api.Topology) { t.Net.Points[2].System = "s" }, api.ErrPoint}, {func(t *api.Topology) { t.Net.Points[2].System = "" }, api.ErrPoint}, {func(t *api.Topology) { t.Net.Points[3].System = "s" }, api.ErrPoint}, {func(t *api.Topology) { t.Net.Points[3].System = "x" }, api.ErrPoint},
		{func(t *api.Topology) { t.Net.Points[4].System = "s" }, api.OK}, {func(t *api.Topology) { t.Net.Points[4].System = "x" }, api.ErrPoint}, {func(t *api.Topology) { t.Net.Points[0].System, t.Systems[1].Name = "x", "C" }, api.ErrName},
	} {
		top := example()
		x.change(&top)
		if e := Check(top); e != x.e {
			t.Error(i, int(e))
		}
	}
	if e := Check(api.Topology{}); e != api.OK {
		t.Error(int(e))
	}
}

// A topology that is not valid has no points and no systems.
func TestInvalid(t *testing.T) {
	top := example()
	top.Systems[1].Most = 0
	if s, ok := System(top, "a"); ok || s != (api.System{}) {
		t.Error(s)
	}
	if Kind(top, "a") != 0 || len(Points(top, "s", api.POpen)) != 0 || Feasible(top, at("a", 0), at("b", 5000)) || Covers(top, []string{"a"}, "s") {
		t.Error("it has points")
	}
	if l, e := Route(top, at("a", 0), at("b", 50)); len(l) != 0 || e != api.ErrPoint {
		t.Error(l, int(e))
	}
}

// P18.2
func TestPoints(t *testing.T) {
	top := example()
	for name, want := range map[string]string{"a": "s", "b": "s", "in": "c", "mid": "c", "any": "", "x": "", "": ""} {
		s, ok := System(top, name)
		if s.Name != want || ok != (want != "") || want == "c" && (!s.Closed || s.Most != 3600) {
			t.Error(name, s, ok)
		}
	}
	for name, want := range map[string]int{"a": 1, "in": 2, "out": 3, "mid": 4, "any": 4, "x": 0, "": 0} {
		if k := Kind(top, name); k != want {
			t.Error(name, k)
		}
	}
	for _, x := range []struct {
		system string
		kind   int
		want   string
	}{{"s", 1, "a b"}, {"c", 2, "in"}, {"c", 3, "out"}, {"c", 4, "mid"}, {"", 4, "any"}, {"c", 1, ""}, {"", 1, ""}, {"x", 1, ""}, {"s", 0, ""}} {
		if l := strings.Join(Points(top, x.system, x.kind), " "); l != x.want {
			t.Error(x, l)
		}
	}
}

// P18.3
func TestRoute(t *testing.T) {
	top := example()
	for _, x := range []struct {
		a, b api.Passage
		want string
		e    api.Errno
	}{
		{at("a", 100), at("b", 130), "a b", api.OK}, {at("a", 100), at("b", 129), "", api.ErrRoute}, {at("a", 100), at("b", 190), "a b", api.OK}, {at("a", 100), at("b", 191), "", api.ErrRoute}, {at("b", 100), at("a", 400), "", api.ErrRoute}, {at("a", 100), at("a", 160), "", api.ErrRoute},
		{at("in", 0), at("out", 20), "in mid out", api.OK}, {at("in", 0), at("out", 30), "in any out,in mid out", api.OK}, {at("in", 0), at("out", 41), "in any out", api.OK}, {at("in", 0), at("out", 61), "", api.ErrRoute}, {at("in", 0), at("a", 61), "", api.ErrRoute},
		{at("x", -1), at("b", 130), "", api.ErrPoint}, {at("a", 100), at("x", 50), "", api.ErrPoint}, {at("a", -1), at("b", 130), "", api.ErrTime}, {at("a", 100), at("b", api.MaxTime), "", api.ErrTime}, {at("a", 100), at("b", 100), "", api.ErrTime}, {at("a", 100), at("b", 99), "", api.ErrTime}, {at("a", math.MinInt), at("b", math.MaxInt), "", api.ErrTime},
	} {
		l, e := Route(top, x.a, x.b)
		var s []string
		for _, p := range l {
			s = append(s, strings.Join(p, " "))
		}
		if strings.Join(s, ",") != x.want || e != x.e {
			t.Error(x, s, int(e))
		}
	}
	// Too many paths: complete layers.
	var top2 api.Topology
	top2.Systems = []api.System{{Name: "s"}}
	add := func(name string) {
		top2.Net.Points = append(top2.Net.Points, api.Point{Name: name, Kind: 1, System: "s"})
	}
	for i := range 11 {
		add("p" + string(rune('a'+i)))
	}
	for _, p := range top2.Net.Points {
		for _, q := range top2.Net.Points {
			if p != q {
				top2.Net.Links = append(top2.Net.Links, link(p.Name, q.Name, 1, 9))
			}
		}
	}
	if l, e := Route(top2, at("pa", 1), at("pb", 5)); len(l) != 0 || e != api.ErrLimit {
		t.Error(len(l), int(e))
	}
}

// P18.4
func TestFeasible(t *testing.T) {
	top := example()
	for _, x := range []struct {
		a, b api.Passage
		want bool
	}{
		{at("a", 100), at("b", 130), true}, {at("a", 100), at("b", 129), false}, {at("a", 100), at("b", 191), true}, {at("b", 100), at("a", 399), false}, {at("b", 100), at("a", 400), true}, {at("a", 100), at("a", 159), false}, {at("a", 100), at("a", 160), true}, {at("in", 0), at("out", 19), false}, {at("in", 0), at("out", 20), true},
		{at("a", 100), at("b", 100), false}, {at("b", 130), at("a", 100), false}, {at("a", -1), at("b", 130), false}, {at("a", 100), at("b", api.MaxTime), false}, {at("a", 100), at("b", api.MaxTime-1), true}, {at("x", 100), at("b", 500), false}, {at("a", 100), at("x", 500), false}, {at("x", 100), at("x", 500), false}, {at("a", math.MinInt), at("b", math.MaxInt), false},
	} {
		if Feasible(top, x.a, x.b) != x.want {
			t.Error(x)
		}
	}
}

// P18.5
func TestCovers(t *testing.T) {
	top := example()
	for path, want := range map[string]string{"a b": "s", "a": "s", "a any b": "s", "in mid out": "c", "any": "s c", "mid": "s c", "a in": "", "x": "", "a x": "", "": ""} {
		for _, system := range []string{"s", "c", "x", ""} {
			if Covers(top, strings.Fields(path), system) != slices.Contains(strings.Fields(want), system) {
				t.Error(path, system)
			}
		}
	}
}

// P18.6 to P18.8
func TestConsequences(t *testing.T) {
	top := example()
	r := rand.New(rand.NewSource(1))
	names := []string{"a", "b", "in", "out", "mid", "any"}
	for range 3000 {
		a, b := at(names[r.Intn(6)], r.Intn(400)), at(names[r.Intn(6)], r.Intn(400))
		l, e := Route(top, a, b)
		if e == api.OK && !Feasible(top, a, b) {
			t.Fatal("a route that is not feasible", a, b)
		}
		for _, p := range l {
			q := slices.Clone(p)
			slices.Sort(q)
			if p[0] != a.Point || p[len(p)-1] != b.Point || len(slices.Compact(q)) != len(p) {
				t.Fatal(a, b, p)
			}
		}
		later := b
		later.Time += r.Intn(100)
		if Feasible(top, a, b) && (!Feasible(top, a, later) || Feasible(top, b, a)) {
			t.Fatal(a, b, later)
		}
	}
	for _, p := range top.Net.Points {
		for _, system := range []string{"s", "c", ""} {
			for kind := range 4 {
				if slices.Contains(Points(top, system, kind), p.Name) != (p.Kind == kind && p.System == system) {
					t.Error(p, system, kind)
				}
			}
		}
	}
}
