package tariff

import (
	"math"
	"math/rand"
	"reflect"
	"slices"
	"strconv"
	"testing"

	"tollway/api"
)

func top() api.Topology {
	return api.Topology{
		Net:     api.Network{Points: []api.Point{{Name: "a", Kind: api.POpen, System: "s"}, {Name: "in", Kind: api.PEntry, System: "c"}, {Name: "out", Kind: api.PExit, System: "c"}, {Name: "dout", Kind: api.PExit, System: "d"}, {Name: "mid", Kind: api.PCheck, System: "c"}}},
		Systems: []api.System{{Name: "s"}, {Name: "c", Closed: true, Most: 9}, {Name: "d", Closed: true, Most: 9}},
	}
}

func rate(from, to string, class int, band string, cents int) api.Rate {
	return api.Rate{From: from, To: to, Class: class, Band: band, Cents: cents}
}

func example() api.Tariff {
	return api.Tariff{
		Valid: api.Interval{From: 0, To: 10000},
		Bands: []api.Band{{Name: "peak", Window: api.Window{Days: 1, From: 60, To: 120}}, {Name: "noon", Window: api.Window{Days: 127, From: 100, To: 200}}, {Name: "peak", Window: api.Window{Days: 2, From: 0, To: 10}}},
		Rates: []api.Rate{rate("a", "", 1, "peak", 200), rate("a", "", 1, "", 100), rate("in", "out", 2, "noon", 50)},
	}
}

// P22.1
func TestCheck(t *testing.T) {
	for i, x := range []struct {
		change func(x *api.Tariff)
		e      api.Errno
	}{
		{func(x *api.Tariff) {}, api.OK}, {func(x *api.Tariff) { x.Valid.To, x.Bands = 0, make([]api.Band, 1025) }, api.ErrTime}, {func(x *api.Tariff) { x.Bands = make([]api.Band, 1025) }, api.ErrLimit}, {func(x *api.Tariff) { x.Bands[0].Name, x.Rates = "P", make([]api.Rate, 1025) }, api.ErrLimit}, {func(x *api.Tariff) { x.Bands = slices.Repeat(x.Bands[:1], 1024) }, api.ErrNone},
		{func(x *api.Tariff) { x.Bands[0] = api.Band{Name: "P"} }, api.ErrName}, {func(x *api.Tariff) { x.Bands[0].Window.Days, x.Bands[1].Name = 0, "" }, api.ErrArg}, {func(x *api.Tariff) { x.Bands[0].Window.Days = 128 }, api.ErrArg}, {func(x *api.Tariff) { x.Bands[0].Window.From = -1 }, api.ErrArg}, {func(x *api.Tariff) { x.Bands[0].Window.From = 120 }, api.ErrArg}, {func(x *api.Tariff) { x.Bands[1].Window.To = 1441 }, api.ErrArg}, {func(x *api.Tariff) { x.Bands[1].Window = api.Window{Days: 127, From: 0, To: 1440} }, api.OK}, {func(x *api.Tariff) { x.Bands[0].Window.Days, x.Rates = -1, nil }, api.ErrArg},
		{func(x *api.Tariff) { x.Rates[0].From, x.Rates[0].Class = "x", 0 }, api.ErrPoint}, {func(x *api.Tariff) { x.Rates[0].From = "in" }, api.ErrPoint}, {func(x *api.Tariff) { x.Rates[0].From = "mid" }, api.ErrPoint}, {func(x *api.Tariff) { x.Rates[0].To = "a" }, api.ErrPoint}, {func(x *api.Tariff) { x.Rates[2].To = "in" }, api.ErrPoint}, {func(x *api.Tariff) { x.Rates[2].To = "dout" }, api.ErrPoint}, {func(x *api.Tariff) { x.Rates[2].From = "out" }, api.ErrPoint}, {func(x *api.Tariff) { x.Rates[2].From = "a" }, api.ErrPoint}, {func(x *api.Tariff) { x.Rates[2].To = "x" }, api.ErrPoint}, {func(x *api.Tariff) { x.Rates[2].From = "" }, api.ErrPoint},
		{func(x *api.Tariff) { x.Rates[0].Class, x.Rates[0].Band = 0, "x" }, api.ErrClass}, {func(x *api.Tariff) { x.Rates[0].Class = 10 }, api.ErrClass}, {func(x *api.Tariff) { x.Rates[0].Class = 9 }, api.OK}, {func(x *api.Tariff) { x.Rates[0].Band, x.Rates[0].Cents = "x", -1 }, api.ErrNone}, {func(x *api.Tariff) { x.Rates[1].Cents, x.Rates[1].Band = -1, "peak" }, api.ErrMoney}, {func(x *api.Tariff) { x.Rates[1].Cents = api.MaxMoney + 1 }, api.ErrMoney}, {func(x *api.Tariff) { x.Rates[1].Cents = api.MaxMoney }, api.OK}, {func(x *api.Tariff) { x.Rates[1].Cents = 0 }, api.OK}, {func(x *api.Tariff) { x.Rates[1].Band = "peak" }, api.ErrExists}, {func(x *api.Tariff) { x.Rates[2] = rate("a", "", 1, "", 100) }, api.ErrExists}, {func(x *api.Tariff) { x.Rates[2] = rate("a", "", 2, "", 100) }, api.OK}, {func(x *api.Tariff) { x.Rates[1].Band, x.Rates[2].From = "peak", "" }, api.ErrExists},
	} {
		tariff := example()
		x.change(&tariff)
		if e := Check(tariff, top()); e != x.e {
			t.Error(i, int(e))
		}
		if e := CheckAll([]api.Tariff{tariff}, top()); e != x.e {
			t.Error("CheckAll", i, int(e))
		}
	}
	full := example()
	full.Bands, full.Rates = nil, nil
	for i := range api.MaxList + 1 {
		name := "b" + strconv.Itoa(i)
		full.Bands = append(full.Bands, api.Band{Name: name, Window: api.Window{Days: 1, From: 0, To: 1}})
		full.Rates = append(full.Rates, rate("a", "", 1, name, 5))
	}
	full.Bands, full.Rates = full.Bands[:api.MaxList], full.Rates[:api.MaxList]
	if e := Check(full, top()); e != api.OK {
		t.Error(int(e))
	}
	full.Rates = append(full.Rates, full.Rates[0])
	if e := Check(full, top()); e != api.ErrLimit {
		t.Error(int(e))
	}
	bad := top()
	bad.Systems[1].Most = 0
	if e := Check(example(), bad); e != api.ErrPoint {
		t.Error("a topology that is not valid", int(e))
	}
}

// P22.2
func TestCheckAll(t *testing.T) {
	valid := func(from, to int) api.Tariff {
		x := example()
		x.Valid = api.Interval{From: from, To: to}
		return x
	}
	var many []api.Tariff
	for i := range api.MaxList + 1 {
		many = append(many, api.Tariff{Valid: api.Interval{From: i, To: i + 1}})
	}
	wrong := valid(10, 20)
	wrong.Rates[0].Class = 0
	for i, x := range []struct {
		l []api.Tariff
		e api.Errno
	}{
		{nil, api.OK}, {many[:api.MaxList], api.OK}, {many, api.ErrLimit}, {[]api.Tariff{valid(10, 20), valid(20, 30), valid(0, 10)}, api.OK}, {[]api.Tariff{valid(10, 20), valid(19, 30)}, api.ErrTime}, {[]api.Tariff{valid(10, 20), valid(0, 11)}, api.ErrTime}, {[]api.Tariff{valid(10, 20), valid(0, 30)}, api.ErrTime}, {[]api.Tariff{valid(10, 20), valid(12, 13)}, api.ErrTime}, {[]api.Tariff{valid(10, 20), valid(20, 30), valid(10, 20)}, api.ErrTime}, {[]api.Tariff{valid(10, 20), wrong}, api.ErrClass}, {[]api.Tariff{valid(10, 20), valid(10, 20), wrong}, api.ErrTime},
	} {
		if e := CheckAll(x.l, top()); e != x.e {
			t.Error(i, int(e))
		}
	}
}

// P22.3, P22.6
func TestAt(t *testing.T) {
	x, y := example(), example()
	y.Valid, y.Rates = api.Interval{From: 10000, To: 20000}, nil
	odd := api.Tariff{Valid: api.Interval{From: -5, To: api.MaxTime}}
	for time, want := range map[int]int{0: 1, 9999: 1, 10000: 2, 19999: 2, 20000: 0, -1: 0, math.MaxInt: 0} {
		for _, l := range [][]api.Tariff{{odd, x, y}, {y, x, odd}} {
			got, e := At(l, time)
			if want == 0 && (e != api.ErrTariff || !reflect.DeepEqual(got, api.Tariff{})) || want == 1 && (e != api.OK || !reflect.DeepEqual(got, x)) || want == 2 && (e != api.OK || !reflect.DeepEqual(got, y)) {
				t.Error(time, got, int(e))
			}
		}
	}
	got, _ := At([]api.Tariff{x, example()}, 5)
	got.Rates[0].Cents, got.Bands[0].Name = 7, "x"
	if x.Rates[0].Cents != 200 || x.Bands[0].Name != "peak" {
		t.Error("shared memory")
	}
}

// P22.3, P22.7
func TestBand(t *testing.T) {
	x := example()
	for time, want := range map[int]string{3600: "peak", 7200: "noon", 7199: "peak", 3599: "", 12000: "", 3600 + 86400: "", 86400: "peak", 86999: "peak", 87000: "", -1: "", math.MinInt: "", 3600 + 7*86400: "peak"} {
		if s := Band(x, time); s != want {
			t.Error(time, s)
		}
	}
	r := rand.New(rand.NewSource(1))
	for range 500 {
		time := r.Intn(api.MaxTime - 7*86400)
		if Band(x, time) != Band(x, time+7*86400) {
			t.Error(time)
		}
	}
}

// P22.4, P22.8
func TestRate(t *testing.T) {
	x := example()
	for _, c := range []struct {
		from, to           string
		class, time, cents int
		e                  api.Errno
	}{
		{"a", "", 1, 3600, 200, api.OK}, {"a", "", 1, 7200, 100, api.OK}, {"a", "", 1, 50000, 100, api.OK}, {"a", "", 1, -1, 100, api.OK}, {"a", "", 2, 3600, 0, api.ErrTariff}, {"in", "out", 2, 6000 + 86400, 50, api.OK}, {"in", "out", 2, 6000, 0, api.ErrTariff}, {"in", "out", 2, 50000, 0, api.ErrTariff}, {"a", "out", 1, 3600, 0, api.ErrTariff}, {"in", "", 2, 6000, 0, api.ErrTariff}, {"", "", 0, 0, 0, api.ErrTariff},
	} {
		if n, e := Rate(x, c.from, c.to, c.class, c.time); n != c.cents || e != c.e {
			t.Error(c, n, int(e))
		}
	}
	// The first rate counts; any tariff is accepted.
	x.Rates = append(x.Rates, rate("a", "", 1, "peak", 999), rate("a", "", 1, "", 999), rate("q", "q", -3, "", -7))
	if n, e := Rate(x, "a", "", 1, 3600); n != 200 || e != api.OK {
		t.Error(n, int(e))
	}
	if n, e := Rate(x, "q", "q", -3, 5); n != -7 || e != api.OK {
		t.Error(n, int(e))
	}
	// Without the rates whose band is empty, the result is the same or there is none.
	r := rand.New(rand.NewSource(2))
	for range 500 {
		y, z := example(), example()
		y.Rates, z.Rates = nil, nil
		for range r.Intn(8) {
			k := rate("a", "", 1+r.Intn(2), []string{"", "peak", "noon"}[r.Intn(3)], r.Intn(100))
			y.Rates = append(y.Rates, k)
			if k.Band != "" {
				z.Rates = append(z.Rates, k)
			}
		}
		time := 60 * r.Intn(200)
		n, e := Rate(y, "a", "", 1, time)
		m, f := Rate(z, "a", "", 1, time)
		if f == api.OK && (n != m || e != api.OK) || f != api.OK && (f != api.ErrTariff || m != 0) || e == api.OK && !slices.ContainsFunc(y.Rates, func(k api.Rate) bool { return k.Cents == n }) {
			t.Fatal(y, time, n, m)
		}
	}
}

// P22.5
func TestRates(t *testing.T) {
	x := api.Tariff{Rates: []api.Rate{rate("b", "", 1, "", 1), rate("a", "z", 1, "", 2), rate("a", "", 1, "p", 3), rate("a", "", 2, "", 4), rate("a", "", 1, "", 5), rate("a", "", 1, "", 4)}}
	if l := Rates(x, 1); !slices.Equal(l, []api.Rate{x.Rates[4], x.Rates[5], x.Rates[2], x.Rates[1], x.Rates[0]}) {
		t.Error(l)
	}
	if l := Rates(example(), 1); len(l) != 2 || l[0].Band != "" || l[1].Band != "peak" {
		t.Error(l)
	}
	if l := Rates(x, 3); len(l) != 0 {
		t.Error(l)
	}
}
