package device

import (
	"math"
	"math/rand"
	"reflect"
	"slices"
	"strconv"
	"strings"
	"testing"

	"tollway/api"
)

func iv(from, to int) api.Interval { return api.Interval{From: from, To: to} }

func off(from, delta int) api.Offset { return api.Offset{From: from, Delta: delta} }

func cam(name, point string, down ...api.Interval) api.Device {
	return api.Device{Name: name, Point: point, Kind: api.DCamera, Down: down}
}

// P9.1
func TestCheck(t *testing.T) {
	n := api.Network{Points: []api.Point{{Name: "a"}, {Name: "a"}, {Name: ""}}, Links: make([]api.Link, 1000)}
	many := func(k int) []api.Device {
		var l []api.Device
		for i := range k {
			l = append(l, cam("c"+strconv.Itoa(i), "a"))
		}
		return l
	}
	with := func(change func(d *api.Device)) []api.Device {
		l := many(3)
		change(&l[1])
		return l
	}
	for i, x := range []struct {
		l []api.Device
		e api.Errno
	}{
		{nil, api.OK}, {many(api.MaxList), api.OK}, {many(api.MaxList + 1), api.ErrLimit}, {append(many(api.MaxList), api.Device{}), api.ErrLimit},
		{with(func(d *api.Device) { d.Name, d.Point = "A", "x" }), api.ErrName}, {with(func(d *api.Device) { d.Name, d.Point = "c0", "x" }), api.ErrExists}, {with(func(d *api.Device) { d.Point, d.Kind = "x", 0 }), api.ErrPoint}, {with(func(d *api.Device) { d.Point = "" }), api.OK},
		{with(func(d *api.Device) { d.Kind = 0 }), api.ErrArg}, {with(func(d *api.Device) { d.Kind = 4 }), api.ErrArg}, {with(func(d *api.Device) { d.Kind = api.DLoop }), api.OK}, {with(func(d *api.Device) { d.Kind = api.DTag }), api.OK}, {with(func(d *api.Device) { d.Lane = -1 }), api.ErrArg}, {with(func(d *api.Device) { d.Lane = 16 }), api.ErrArg}, {with(func(d *api.Device) { d.Lane = 15 }), api.OK},
		{with(func(d *api.Device) { d.Offsets = []api.Offset{off(0, 86400), off(api.MaxTime-1, -86400)} }), api.OK}, {with(func(d *api.Device) { d.Offsets = []api.Offset{off(5, 0), off(5, 99999)} }), api.ErrOrder}, {with(func(d *api.Device) { d.Offsets = []api.Offset{off(5, 0), off(4, 0)} }), api.ErrOrder}, {with(func(d *api.Device) { d.Offsets = []api.Offset{off(-1, 0), off(-1, 0)} }), api.ErrArg}, {with(func(d *api.Device) { d.Offsets = []api.Offset{off(api.MaxTime, 0)} }), api.ErrArg}, {with(func(d *api.Device) { d.Offsets = []api.Offset{off(0, 86401)} }), api.ErrArg}, {with(func(d *api.Device) { d.Offsets = []api.Offset{off(0, -86401)} }), api.ErrArg}, {with(func(d *api.Device) { d.Offsets, d.Down = []api.Offset{off(0, math.MinInt)}, []api.Interval{{}} }), api.ErrArg},
		{with(func(d *api.Device) { d.Down = []api.Interval{iv(0, 5), iv(6, api.MaxTime)} }), api.OK}, {with(func(d *api.Device) { d.Down = []api.Interval{iv(0, 5), iv(5, 7)} }), api.ErrOrder}, {with(func(d *api.Device) { d.Down = []api.Interval{iv(3, 5), iv(0, 1)} }), api.ErrOrder}, {with(func(d *api.Device) { d.Down = []api.Interval{iv(3, 5), iv(1, 0)} }), api.ErrTime}, {with(func(d *api.Device) { d.Down = []api.Interval{iv(3, 3)} }), api.ErrTime}, {with(func(d *api.Device) { d.Down = []api.Interval{iv(0, api.MaxTime+1)} }), api.ErrTime},
		{[]api.Device{cam("b", "a"), cam("b", "a"), {}}, api.ErrExists}, {[]api.Device{{Name: "b", Point: "a", Kind: 2, Down: []api.Interval{{}}}, {}}, api.ErrTime},
	} {
		if e := Check(x.l, n); e != x.e {
			t.Error(i, int(e), int(x.e))
		}
	}
}

// P9.2
func TestFind(t *testing.T) {
	l := []api.Device{cam("b", "p", iv(1, 2)), {Name: "a", Point: "q", Kind: 9, Offsets: []api.Offset{off(1, 2)}}, {Name: "b", Point: "r"}}
	for name, want := range map[string]int{"b": 0, "a": 1} {
		if d, ok := Find(l, name); !ok || !reflect.DeepEqual(d, l[want]) {
			t.Error(name, d, ok)
		}
	}
	if d, ok := Find(l, "c"); ok || !reflect.DeepEqual(d, api.Device{}) {
		t.Error(d, ok)
	}
	d, _ := Find(l, "b")
	d.Down[0].From = 77
	d, _ = Find(l, "a")
	d.Offsets[0].From = 77
	if l[0].Down[0].From != 1 || l[1].Offsets[0].From != 1 {
		t.Error("the result shares memory with the argument")
	}
}

// P9.2
func TestAt(t *testing.T) {
	l := []api.Device{{Name: "b", Point: "p", Kind: 2, Lane: 1}, {Name: "c", Point: "q", Kind: 2}, {Name: "a", Point: "p", Kind: 1}, {Name: "b", Point: "p", Kind: 2, Lane: 2, Down: []api.Interval{iv(1, 2)}}, {Name: "b", Point: "p", Kind: 3, Lane: 3}, {Name: "a", Point: "p", Kind: 7, Lane: 4}}
	show := func(l []api.Device) string {
		var s []string
		for _, d := range l {
			s = append(s, d.Name+strconv.Itoa(d.Lane))
		}
		return strings.Join(s, " ")
	}
	for _, x := range []struct {
		point string
		kind  int
		want  string
	}{{"p", 0, "a0 a4 b1 b2 b3"}, {"p", 2, "b1 b2"}, {"p", 1, "a0"}, {"p", 7, "a4"}, {"q", 0, "c0"}, {"r", 0, ""}, {"p", -1, ""}} {
		if s := show(At(l, x.point, x.kind)); s != x.want {
			t.Error(x, s)
		}
	}
	At(l, "p", 2)[1].Down[0].From = 77
	if l[3].Down[0].From != 1 || show(l) != "b1 c0 a0 b2 b3 a4" {
		t.Error("the argument is changed")
	}
}

// P9.3, P9.6
func TestClock(t *testing.T) {
	two := []api.Offset{off(100, 5), off(200, -5)}
	for _, x := range []struct {
		l    []api.Offset
		raw  int
		want int
		ok   bool
	}{
		{two, 99, 99, true}, {two, 100, 105, true}, {two, 199, 204, true}, {two, 200, 195, true}, {nil, 7, 7, true}, {[]api.Offset{off(0, -10)}, 9, 0, false}, {[]api.Offset{off(0, -10)}, 10, 0, true},
		{nil, -1, 0, false}, {nil, api.MaxTime, 0, false}, {nil, api.MaxTime - 1, api.MaxTime - 1, true}, {[]api.Offset{off(0, 1)}, api.MaxTime - 1, 0, false}, {[]api.Offset{off(0, 5)}, -3, 0, false}, {[]api.Offset{off(0, -5)}, api.MaxTime, 0, false},
		{[]api.Offset{off(0, math.MaxInt)}, 5, 0, false}, {[]api.Offset{off(0, math.MinInt)}, 5, 0, false}, {[]api.Offset{off(math.MinInt, 3)}, 5, 8, true}, {[]api.Offset{off(9, 1), off(3, 2)}, 10, 12, true}, {nil, math.MinInt, 0, false}, {nil, math.MaxInt, 0, false},
	} {
		if n, ok := Clock(api.Device{Offsets: x.l}, x.raw); n != x.want || ok != x.ok {
			t.Error(x, n, ok)
		}
	}
	r := rand.New(rand.NewSource(1))
	for range 1000 {
		l := []api.Device{{Name: "a", Kind: 1, Offsets: []api.Offset{off(r.Intn(50), r.Intn(172801)-86400), off(50+r.Intn(50), r.Intn(172801)-86400)}}}
		if Check(l, api.Network{Points: make([]api.Point, 1)}) != api.OK {
			t.Fatal(l)
		}
		raw := r.Intn(200000)
		if n, ok := Clock(l[0], raw); ok && (n < raw-86400 || n > raw+86400) {
			t.Error(l, raw, n)
		}
	}
}

// P9.3
func TestWorks(t *testing.T) {
	d := cam("a", "p", iv(10, 20), iv(30, 25), iv(-5, 5), iv(15, 22))
	for at, want := range map[int]bool{0: true, 9: true, 10: false, 19: false, 20: false, 21: false, 22: true, 27: true, -1: false, api.MaxTime - 1: true, api.MaxTime: false, math.MinInt: false, math.MaxInt: false} {
		if Works(d, at) != want {
			t.Error(at)
		}
	}
}

// P9.4, P9.5
func TestOutage(t *testing.T) {
	l := []api.Device{cam("b", "p", iv(10, 30)), cam("c", "p", iv(20, 40)), {Name: "d", Point: "q", Kind: 2}}
	for _, x := range []struct {
		point string
		kind  int
		want  []api.Interval
	}{{"p", 2, []api.Interval{iv(20, 30)}}, {"p", 0, []api.Interval{iv(20, 30)}}, {"p", 1, []api.Interval{iv(0, api.MaxTime)}}, {"q", 2, nil}, {"r", 0, []api.Interval{iv(0, api.MaxTime)}}} {
		if o := Outage(l, x.point, x.kind); !slices.Equal(o, x.want) {
			t.Error(x, o)
		}
	}
	r := rand.New(rand.NewSource(2))
	for range 500 {
		l := make([]api.Device, r.Intn(5))
		for i := range l {
			l[i] = api.Device{Name: string(rune('a' + i)), Point: string(rune('p' + r.Intn(2))), Kind: 1 + r.Intn(3)}
			for range r.Intn(4) {
				from := r.Intn(20) - 1
				l[i].Down = append(l[i].Down, iv(from, from+r.Intn(9)))
			}
		}
		for kind := range 4 {
			out := Outage(l, "p", kind)
			for k, x := range out {
				if x.From >= x.To || k > 0 && out[k-1].To >= x.From {
					t.Fatal("no normal form", l, out)
				}
			}
			for at := range 30 {
				none := true
				for _, d := range At(l, "p", kind) {
					none = none && !Works(d, at)
				}
				has := slices.ContainsFunc(out, func(x api.Interval) bool { return x.From <= at && at < x.To })
				if has != none {
					t.Fatal(l, kind, at, out)
				}
			}
		}
	}
}
