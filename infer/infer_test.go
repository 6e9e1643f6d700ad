package infer

import (
	"math/big"
	"math/rand"
	"slices"
	"strings"
	"testing"

	"tollway/api"
	"tollway/graph"
	"tollway/topology"
)

func top() api.Topology {
	t := api.Topology{Systems: []api.System{{Name: "s"}}}
	for _, s := range []string{"a", "b", "c", "d"} {
		t.Net.Points = append(t.Net.Points, api.Point{Name: s, Kind: api.POpen, System: "s"})
	}
	t.Net.Links = []api.Link{{From: "a", To: "b", Min: 10, Max: 20}, {From: "b", To: "c", Min: 30, Max: 60}}
	return t
}

// two has a second path from a to c.
func two() api.Topology {
	t := top()
	t.Net.Links = append(t.Net.Links, api.Link{From: "a", To: "c", Min: 50, Max: 70})
	return t
}

func at(point string, time int) api.Passage {
	return api.Passage{ID: point, Point: point, Time: time}
}

// P20.1
func TestMissing(t *testing.T) {
	for i, x := range []struct {
		t    api.Topology
		a, b api.Passage
		want string
		e    api.Errno
	}{
		{top(), at("a", 100), at("c", 160), "b", api.OK}, {top(), at("a", 100), at("c", 140), "b", api.OK}, {top(), at("a", 100), at("c", 180), "b", api.OK}, {top(), at("a", 100), at("c", 139), "", api.ErrRoute}, {top(), at("a", 100), at("c", 181), "", api.ErrRoute}, {top(), at("a", 100), at("b", 110), "", api.OK}, {top(), at("a", 100), at("a", 160), "", api.ErrRoute}, {top(), at("a", 100), at("d", 160), "", api.ErrRoute},
		{two(), at("a", 100), at("c", 160), "", api.ErrState}, {two(), at("a", 100), at("c", 149), "b", api.OK}, {two(), at("a", 100), at("c", 150), "", api.ErrState}, {two(), at("a", 100), at("c", 171), "b", api.OK},
		{top(), at("x", 100), at("c", 100), "", api.ErrPoint}, {top(), at("a", 100), at("c", 100), "", api.ErrTime}, {top(), at("a", -1), at("c", 100), "", api.ErrTime}, {api.Topology{}, at("a", 100), at("c", 160), "", api.ErrPoint},
	} {
		if l, e := Missing(x.t, x.a, x.b); strings.Join(l, " ") != x.want || e != x.e {
			t.Error(i, l, int(e))
		}
	}
}

// P20.2
func TestTimes(t *testing.T) {
	bad := top()
	bad.Systems = nil
	last := api.MaxTime - 1
	long := slices.Repeat([]string{"x"}, 17)
	for i, x := range []struct {
		t        api.Topology
		path     []string
		from, to int
		want     []int
		e        api.Errno
	}{
		{top(), []string{"a", "b", "c"}, 100, 160, []int{100, 115, 160}, api.OK}, {top(), []string{"a", "b", "c"}, 100, 100, []int{100, 100, 100}, api.OK}, {top(), []string{"a", "b", "c"}, 100, 103, []int{100, 100, 103}, api.OK}, {top(), []string{"a", "b", "c"}, 0, last, []int{0, last / 4, last}, api.OK}, {top(), []string{"d"}, 5, 900, []int{5}, api.OK}, {top(), []string{"a", "b"}, 5, 900, []int{5, 900}, api.OK},
		{top(), []string{"a", "c"}, 100, 160, nil, api.ErrRoute}, {top(), []string{"a", "x"}, 100, 160, nil, api.ErrPoint}, {top(), nil, 100, 160, nil, api.ErrPoint}, {top(), nil, 160, 100, nil, api.ErrTime}, {top(), []string{"x"}, -1, 100, nil, api.ErrTime}, {top(), []string{"x"}, 0, api.MaxTime, nil, api.ErrTime}, {top(), long, -1, 100, nil, api.ErrLimit}, {top(), long[:16], 0, 100, nil, api.ErrPoint}, {bad, []string{"a", "b"}, 0, 100, nil, api.ErrPoint},
	} {
		if l, e := Times(x.t, x.path, x.from, x.to); !slices.Equal(l, x.want) || e != x.e {
			t.Error(i, l, int(e))
		}
	}
}

// P20.2, P20.6: the product is exact.
func TestTimesExact(t *testing.T) {
	r := rand.New(rand.NewSource(1))
	for range 500 {
		top := api.Topology{}
		var path []string
		var mins []int
		for i := range 2 + r.Intn(15) {
			path = append(path, "p"+string(rune('a'+i)))
			top.Net.Points = append(top.Net.Points, api.Point{Name: path[i], Kind: api.PCheck})
			if i > 0 {
				mins = append(mins, 1+r.Intn(api.MaxNumber)>>r.Intn(31))
				top.Net.Links = append(top.Net.Links, api.Link{From: path[i-1], To: path[i], Min: mins[i-1], Max: api.MaxNumber})
			}
		}
		from := r.Intn(api.MaxTime)
		to := from + r.Intn(api.MaxTime-from)
		l, e := Times(top, path, from, to)
		if e != api.OK || len(l) != len(path) {
			t.Fatal(l, int(e))
		}
		all, sum := 0, 0
		for _, n := range mins {
			all += n
		}
		for k := range l {
			if k > 0 {
				sum += mins[k-1]
			}
			want := new(big.Int).Mul(big.NewInt(int64(to-from)), big.NewInt(int64(sum)))
			want.Div(want, big.NewInt(int64(all)))
			if int64(l[k]-from) != want.Int64() || k > 0 && (l[k] < l[k-1] || to-from >= all && l[k]-l[k-1] < mins[k-1]) {
				t.Fatal(k, l, want)
			}
		}
		if l[0] != from || l[len(l)-1] != to {
			t.Fatal(from, to, l)
		}
	}
}

// P20.3
func TestStops(t *testing.T) {
	if l, e := Stops(top(), []api.Passage{at("a", 100), at("c", 160)}); !slices.Equal(l, []api.Stop{{Point: "a", Time: 100, Passage: "a"}, {Point: "b", Time: 115}, {Point: "c", Time: 160, Passage: "c"}}) || e != api.OK {
		t.Error(l, int(e))
	}
	if l, e := Stops(two(), []api.Passage{at("a", 100), at("c", 160)}); len(l) != 2 || e != api.OK {
		t.Error(l, int(e))
	}
	if l, e := Stops(top(), []api.Passage{at("c", 100), at("a", 160), at("a", 161), at("c", 300)}); len(l) != 4 || e != api.OK {
		t.Error(l, int(e))
	}
	if l, e := Stops(top(), nil); len(l) != 0 || e != api.OK {
		t.Error(l, int(e))
	}
	many := make([]api.Passage, api.MaxList+1)
	for i := range many {
		many[i] = at("a", i)
	}
	if l, e := Stops(top(), many[:api.MaxList]); len(l) != api.MaxList || e != api.OK {
		t.Error(len(l), int(e))
	}
	many[0].Point = "x"
	bad := top()
	bad.Systems = nil
	for i, x := range []struct {
		t api.Topology
		l []api.Passage
		e api.Errno
	}{
		{top(), many, api.ErrLimit}, {top(), many[:2], api.ErrPoint}, {top(), []api.Passage{at("a", 5), at("x", -1)}, api.ErrPoint}, {top(), []api.Passage{at("a", 5), at("b", -1)}, api.ErrTime}, {top(), []api.Passage{at("a", api.MaxTime)}, api.ErrTime}, {top(), []api.Passage{at("a", 5), at("b", 5)}, api.ErrOrder}, {top(), []api.Passage{at("a", 5), at("b", 4), at("x", 4)}, api.ErrOrder}, {bad, []api.Passage{at("a", 5)}, api.ErrPoint},
	} {
		if l, e := Stops(x.t, x.l); len(l) != 0 || e != x.e {
			t.Error(i, l, int(e))
		}
	}
}

// P20.3, P20.7, P20.8
func TestStopsFollowMissing(t *testing.T) {
	r := rand.New(rand.NewSource(2))
	for range 500 {
		top := two()
		top.Net.Links = append(top.Net.Links, api.Link{From: "c", To: "d", Min: 5, Max: 50}, api.Link{From: "d", To: "a", Min: 5, Max: 500})
		l := make([]api.Passage, r.Intn(7))
		time := 0
		for i := range l {
			time += 1 + r.Intn(120)
			l[i] = at(string(rune('a'+r.Intn(4))), time)
		}
		stops, e := Stops(top, l)
		if e != api.OK {
			t.Fatal(int(e))
		}
		var want []api.Stop
		for i, p := range l {
			if i > 0 {
				if m, e := Missing(top, l[i-1], p); e == api.OK {
					path := slices.Concat([]string{l[i-1].Point}, m, []string{p.Point})
					times, e := Times(top, path, l[i-1].Time, p.Time)
					routes, f := topology.Route(top, l[i-1], p)
					if e != api.OK || f != api.OK || len(routes) != 1 || !slices.Equal(routes[0], path) {
						t.Fatal(path, times, routes)
					}
					for k, s := range m {
						want = append(want, api.Stop{Point: s, Time: times[k+1]})
					}
				}
			}
			want = append(want, api.Stop{Point: p.Point, Time: p.Time, Passage: p.ID})
		}
		if !slices.Equal(stops, want) || Inferred(stops) != len(want)-len(l) {
			t.Fatal(l, stops, want)
		}
		for i := 1; i < len(stops); i++ {
			if stops[i].Time < stops[i-1].Time {
				t.Fatal("times descend", stops)
			}
			if stops[i].Passage == "" || stops[i-1].Passage == "" {
				if _, _, e := graph.Bounds(top.Net, []string{stops[i-1].Point, stops[i].Point}); e != api.OK {
					t.Fatal("no link", stops)
				}
			}
		}
	}
}

// P20.4
func TestExplained(t *testing.T) {
	l := []api.Device{{Name: "t", Point: "p", Kind: api.DTag, Down: []api.Interval{{From: 10, To: 30}}}, {Name: "c", Point: "p", Kind: api.DCamera, Down: []api.Interval{{From: 20, To: 40}}}, {Name: "l", Point: "p", Kind: api.DLoop}, {Name: "q", Point: "q", Kind: api.DTag}}
	for time, want := range map[int]bool{9: false, 10: false, 19: false, 20: true, 29: true, 30: false, 39: false, -1: false, api.MaxTime: false} {
		if Explained(l, "p", time) != want {
			t.Error(time)
		}
	}
	if Explained(l, "q", 5) || !Explained(l, "r", 5) || Explained(l, "r", -1) || Explained(l, "r", api.MaxTime) || !Explained(nil, "p", 0) {
		t.Error("points without devices of a kind")
	}
}

// P20.5
func TestInferred(t *testing.T) {
	if n := Inferred([]api.Stop{{Point: "a"}, {Passage: "x"}, {}}); n != 2 {
		t.Error(n)
	}
	if n := Inferred(nil); n != 0 {
		t.Error(n)
	}
}
