package relief

import (
	"math"
	"math/rand"
	"reflect"
	"slices"
	"testing"

	"tollway/api"
)

func rule(kind, part int) api.Relief { return api.Relief{Kind: kind, Part: part} }

func config(l ...api.Relief) api.Config {
	return api.Config{Reliefs: l, Devices: []api.Device{
		{Name: "cam", Point: "p", Kind: api.DCamera, Down: []api.Interval{{From: 50, To: 60}}},
		{Name: "t1", Point: "r", Kind: api.DTag, Down: []api.Interval{{From: 0, To: 60}}},
		{Name: "t2", Point: "r", Kind: api.DTag, Down: []api.Interval{{From: 40, To: 90}}},
		{Name: "loop", Point: "r", Kind: api.DLoop, Down: []api.Interval{{From: 45, To: 46}}},
	}}
}

func trip(stops ...api.Stop) api.Trip { return api.Trip{Stops: stops} }

func at(point string, time int) api.Stop { return api.Stop{Point: point, Time: time} }

// P45.1
func TestCheck(t *testing.T) {
	for i, x := range []struct {
		l []api.Relief
		e api.Errno
	}{
		{nil, api.OK}, {[]api.Relief{rule(3, 0), rule(0, 1000), rule(2, 5), rule(1, 5)}, api.OK}, {make([]api.Relief, 13), api.ErrLimit}, {make([]api.Relief, 12), api.ErrExists}, {[]api.Relief{rule(-1, 0)}, api.ErrArg}, {[]api.Relief{rule(4, 0)}, api.ErrArg}, {[]api.Relief{rule(1, -1)}, api.ErrArg}, {[]api.Relief{rule(1, 1001)}, api.ErrArg}, {[]api.Relief{rule(1, 0), rule(1, 1001)}, api.ErrArg}, {[]api.Relief{rule(1, 0), rule(1, 0), rule(9, 0)}, api.ErrExists}, {[]api.Relief{rule(math.MinInt, 0)}, api.ErrArg},
	} {
		if e := Check(x.l); e != x.e {
			t.Error(i, int(e))
		}
		if x.e == api.OK {
			continue
		}
		if n := Part(append(x.l, rule(2, 700)), []int{1, 2, 3}); n != 0 {
			t.Error("Part", i, n)
		}
		if ch, e := Apply(config(x.l...), trip(at("p", 55)), api.Charge{Cents: -1}); !reflect.DeepEqual(ch, api.Charge{}) || e != x.e {
			t.Error("Apply", i, int(e))
		}
	}
}

// P45.2
func TestDown(t *testing.T) {
	for i, x := range []struct {
		x    api.Trip
		want []int
	}{
		{trip(at("p", 55)), []int{2}}, {trip(at("p", 50)), []int{2}}, {trip(at("p", 49)), nil}, {trip(at("p", 60)), nil}, {trip(at("q", 55)), nil}, {trip(), nil}, {trip(at("r", 50)), []int{1}}, {trip(at("r", 45)), []int{1, 3}}, {trip(at("r", 39)), nil}, {trip(at("r", 60)), nil}, {trip(at("r", 45), at("p", 55), at("p", 56)), []int{1, 2, 3}}, {trip(at("p", 5), at("q", 50), at("p", 50)), []int{2}},
	} {
		if l := Down(config(), x.x); !slices.Equal(l, x.want) {
			t.Error(i, l)
		}
	}
}

// P45.3
func TestPart(t *testing.T) {
	l := []api.Relief{rule(0, 100), rule(2, 1000)}
	for i, x := range []struct {
		l     []api.Relief
		kinds []int
		n     int
	}{
		{l, []int{2}, 1000}, {l, []int{1}, 100}, {l, nil, 0}, {l, []int{3, 2, 3, 1}, 1000}, {l, []int{0, 4, -1, 9}, 0}, {l, []int{0, 3}, 100}, {l[1:], []int{1, 3}, 0}, {l[1:], []int{2, 2}, 1000}, {nil, []int{1}, 0}, {[]api.Relief{rule(0, 900), rule(2, 5)}, []int{2}, 900}, {l, []int{math.MinInt, math.MaxInt}, 0},
	} {
		if n := Part(x.l, x.kinds); n != x.n {
			t.Error(i, n)
		}
	}
}

// P45.4, P45.5
func TestApply(t *testing.T) {
	charge := func(cents int) api.Charge {
		return api.Charge{Key: "k", Vehicle: "v", System: "s", Class: 1, Time: 5, Lines: []api.Line{{Text: "base", Cents: cents}}, Cents: cents}
	}
	for i, x := range []struct {
		c           api.Config
		x           api.Trip
		cents, less int
	}{
		{config(rule(0, 100)), trip(at("p", 55)), 205, 21}, {config(rule(0, 100)), trip(at("p", 60)), 205, 0}, {config(rule(0, 100), rule(2, 1000)), trip(at("p", 55)), 205, 205}, {config(rule(1, 1000)), trip(at("p", 55)), 205, 0}, {config(rule(0, 0)), trip(at("p", 55)), 205, 0}, {config(rule(0, 1)), trip(at("p", 55)), 1, 1}, {config(rule(0, 1000)), trip(at("p", 55)), 0, 0}, {config(rule(0, 999)), trip(at("p", 55)), api.MaxMoney, api.MaxMoney - api.MaxMoney/1000}, {config(rule(0, 500)), trip(at("p", 55)), 3, 2}, {config(), trip(at("p", 55)), 205, 0},
	} {
		ch := charge(x.cents)
		want := charge(x.cents)
		if x.less > 0 {
			want.Lines = append(want.Lines, api.Line{Text: "outage", Cents: -x.less})
			want.Cents -= x.less
		}
		r, e := Apply(x.c, x.x, ch)
		if e != api.OK || !reflect.DeepEqual(r, want) || !reflect.DeepEqual(ch, charge(x.cents)) || Waived(r) != (x.less > 0 && r.Cents == 0) {
			t.Error(i, r, int(e))
		}
		r.Lines[0].Cents = -7
		if ch.Lines[0].Cents != x.cents {
			t.Error("shared memory")
		}
	}
	for _, cents := range []int{-1, api.MaxMoney + 1, math.MinInt} {
		if r, e := Apply(config(), trip(), charge(cents)); !reflect.DeepEqual(r, api.Charge{}) || e != api.ErrMoney {
			t.Error(cents, int(e))
		}
	}
	line := []api.Line{{Text: "base", Cents: 5}, {Text: "outage", Cents: 7}}
	for i, x := range []struct {
		ch   api.Charge
		want bool
	}{{api.Charge{Lines: line}, true}, {api.Charge{Lines: line, Cents: 12}, false}, {api.Charge{Lines: line[:1]}, false}, {api.Charge{}, false}} {
		if Waived(x.ch) != x.want {
			t.Error(i)
		}
	}
}

// P45.6 to P45.8
func TestConsequences(t *testing.T) {
	r := rand.New(rand.NewSource(1))
	for range 2000 {
		var l []api.Relief
		for kind := range 4 {
			if r.Intn(2) == 0 {
				l = append(l, rule(kind, r.Intn(1001)))
			}
		}
		c := config(l...)
		x := trip(at([]string{"p", "q", "r"}[r.Intn(3)], r.Intn(100)), at([]string{"p", "q", "r"}[r.Intn(3)], r.Intn(100)))
		cents := r.Intn(1000)
		ch := api.Charge{Lines: []api.Line{{Text: "base", Cents: cents}}, Cents: cents}
		got, e := Apply(c, x, ch)
		sum := 0
		for _, k := range got.Lines {
			sum += k.Cents
		}
		if e != api.OK || got.Cents > cents || got.Cents < 0 || sum != got.Cents {
			t.Fatal(got)
		}
		down := Down(c, x)
		if len(down) == 0 && !reflect.DeepEqual(got, ch) {
			t.Fatal(got)
		}
		n := Part(l, down)
		if n == 1000 && got.Cents != 0 || Part(l, append(down, 1+r.Intn(3))) < n || len(l) > 0 && Part(l[1:], down) > n {
			t.Fatal(l, down, n, got)
		}
	}
}
