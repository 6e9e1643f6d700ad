package zone

import (
	"math"
	"math/rand"
	"reflect"
	"slices"
	"testing"

	"tollway/api"
)

func iv(from, to int) api.Interval { return api.Interval{From: from, To: to} }

func win(days, from, to int) api.Window { return api.Window{Days: days, From: from, To: to} }

func step(upto, unit, cents int) api.Step { return api.Step{Upto: upto, Unit: unit, Cents: cents} }

func example() api.Zone {
	return api.Zone{Name: "z", Hours: []api.Window{win(31, 480, 1080)}, Steps: []api.Step{step(3600, 1800, 100), step(7200, 60, 1), step(0, 3600, 150)}}
}

// P26.1
func TestCheck(t *testing.T) {
	many := func(n int) []api.Step {
		var l []api.Step
		for i := range n {
			l = append(l, step(i+1, 1, 0))
		}
		l[n-1].Upto = 0
		return l
	}
	for i, x := range []struct {
		change func(z *api.Zone)
		e      api.Errno
	}{
		{func(z *api.Zone) {}, api.OK}, {func(z *api.Zone) { z.Name, z.Hours = "Z", make([]api.Window, 33) }, api.ErrName}, {func(z *api.Zone) { z.Hours = make([]api.Window, 33) }, api.ErrLimit}, {func(z *api.Zone) { z.Hours = slices.Repeat(z.Hours, 32) }, api.OK}, {func(z *api.Zone) { z.Hours = nil }, api.OK}, {func(z *api.Zone) { z.Hours[0].Days, z.Steps = 0, nil }, api.ErrTime}, {func(z *api.Zone) { z.Hours[0].To = 1441 }, api.ErrTime},
		{func(z *api.Zone) { z.Steps = make([]api.Step, 17) }, api.ErrLimit}, {func(z *api.Zone) { z.Steps = many(16) }, api.OK}, {func(z *api.Zone) { z.Steps = many(17) }, api.ErrLimit}, {func(z *api.Zone) { z.Steps = nil }, api.ErrArg}, {func(z *api.Zone) { z.Steps[0].Unit, z.Steps[0].Upto = 0, 0 }, api.ErrArg}, {func(z *api.Zone) { z.Steps[0].Unit = api.MaxTime + 1 }, api.ErrArg}, {func(z *api.Zone) { z.Steps[0].Unit = api.MaxTime }, api.OK}, {func(z *api.Zone) { z.Steps[2].Cents = -1 }, api.ErrArg}, {func(z *api.Zone) { z.Steps[2].Cents = api.MaxNumber + 1 }, api.ErrArg}, {func(z *api.Zone) { z.Steps[2].Cents = api.MaxNumber }, api.OK},
		{func(z *api.Zone) { z.Steps[0].Upto, z.Steps[1].Unit = 0, 0 }, api.ErrTime}, {func(z *api.Zone) { z.Steps[1].Upto = api.MaxTime + 1 }, api.ErrTime}, {func(z *api.Zone) { z.Steps[1].Upto = api.MaxTime }, api.OK}, {func(z *api.Zone) { z.Steps[1].Upto, z.Steps[2].Unit = 3600, 0 }, api.ErrOrder}, {func(z *api.Zone) { z.Steps[1].Upto = 3599 }, api.ErrOrder}, {func(z *api.Zone) { z.Steps[1].Upto = 3601 }, api.OK}, {func(z *api.Zone) { z.Steps[2].Upto = 9000 }, api.ErrTime}, {func(z *api.Zone) { z.Steps[2].Upto = -1 }, api.ErrTime}, {func(z *api.Zone) { z.Steps = z.Steps[2:] }, api.OK},
		{func(z *api.Zone) { z.Grace, z.DayMax = -1, -1 }, api.ErrTime}, {func(z *api.Zone) { z.Free = -1 }, api.ErrTime}, {func(z *api.Zone) { z.MaxStay = -1 }, api.ErrTime}, {func(z *api.Zone) { z.Grace = api.MaxTime + 1 }, api.ErrTime}, {func(z *api.Zone) { z.Free = api.MaxTime + 1 }, api.ErrTime}, {func(z *api.Zone) { z.MaxStay = api.MaxTime + 1 }, api.ErrTime}, {func(z *api.Zone) {
			z.Grace, z.Free, z.MaxStay, z.DayMax = api.MaxTime, api.MaxTime, api.MaxTime, api.MaxMoney
		}, api.OK}, {func(z *api.Zone) { z.DayMax = -1 }, api.ErrMoney}, {func(z *api.Zone) { z.DayMax = api.MaxMoney + 1 }, api.ErrMoney},
	} {
		z := example()
		x.change(&z)
		if e := Check(z); e != x.e {
			t.Error(i, int(e))
		}
		other := example()
		other.Name = "other"
		if e := CheckAll([]api.Zone{other, z}); e != x.e {
			t.Error("CheckAll", i, int(e))
		}
	}
	var l []api.Zone
	for i := range api.MaxList + 1 {
		z := example()
		z.Name = "z" + string(rune('a'+i%26)) + string(rune('a'+i/26%26)) + string(rune('a'+i/676))
		l = append(l, z)
	}
	wrong := example()
	wrong.DayMax = -1
	for i, x := range []struct {
		l []api.Zone
		e api.Errno
	}{{nil, api.OK}, {l[:api.MaxList], api.OK}, {l, api.ErrLimit}, {[]api.Zone{example(), example()}, api.ErrExists}, {[]api.Zone{example(), wrong}, api.ErrMoney}, {[]api.Zone{example(), example(), wrong}, api.ErrExists}} {
		if e := CheckAll(x.l); e != x.e {
			t.Error(i, int(e))
		}
	}
}

// P26.2
func TestFind(t *testing.T) {
	a, b := example(), api.Zone{Name: "z", Grace: 5}
	c := api.Zone{Name: "", DayMax: -7}
	l := []api.Zone{a, b, c}
	if z, ok := Find(l, "z"); !ok || !reflect.DeepEqual(z, a) {
		t.Error(z)
	}
	if z, ok := Find(l, ""); !ok || z.DayMax != -7 {
		t.Error(z)
	}
	if z, ok := Find(l, "y"); ok || !reflect.DeepEqual(z, api.Zone{}) {
		t.Error(z)
	}
	z, _ := Find(l, "z")
	z.Hours[0].Days, z.Steps[0].Cents = 1, 1
	if a.Hours[0].Days != 31 || a.Steps[0].Cents != 100 {
		t.Error("shared memory")
	}
}

// P26.3
func TestOpen(t *testing.T) {
	z := example()
	for at, want := range map[int]bool{28800: true, 28799: false, 64799: true, 64800: false, -1: false, 5*86400 + 30000: false, 4*86400 + 30000: true} {
		if Open(z, at) != want {
			t.Error(at)
		}
	}
	always := api.Zone{}
	for at, want := range map[int]bool{0: true, api.MaxTime - 1: true, -1: false, api.MaxTime: false, math.MinInt: false, math.MaxInt: false} {
		if Open(always, at) != want {
			t.Error(at)
		}
	}
	z.Hours = []api.Window{win(127, -1, 1440), win(0, 0, 1440), win(127, 0, 1441)}
	if Open(z, 5) {
		t.Error("windows that are not valid")
	}
}

// P26.4
func TestEnforced(t *testing.T) {
	two := example()
	two.Hours = append(two.Hours, win(1, 1000, 1440))
	odd := api.Zone{Hours: []api.Window{win(0, 0, 1440)}}
	mixed := api.Zone{Hours: []api.Window{win(0, 0, 1440), win(2, 0, 1)}}
	for i, x := range []struct {
		z    api.Zone
		i    api.Interval
		want []api.Interval
		e    api.Errno
	}{
		{example(), iv(0, 172800), []api.Interval{iv(28800, 64800), iv(115200, 151200)}, api.OK}, {two, iv(0, 86400), []api.Interval{iv(28800, 86400)}, api.OK}, {example(), iv(30000, 30001), []api.Interval{iv(30000, 30001)}, api.OK}, {example(), iv(0, 28800), nil, api.OK},
		{api.Zone{}, iv(5, 366*86400), []api.Interval{iv(5, 366*86400)}, api.OK}, {api.Zone{}, iv(5, 366*86400+1), nil, api.ErrLimit}, {api.Zone{}, iv(api.MaxTime-1, api.MaxTime), []api.Interval{iv(api.MaxTime-1, api.MaxTime)}, api.OK}, {api.Zone{}, iv(5, 5), nil, api.ErrTime}, {odd, iv(5, 5), nil, api.ErrTime}, {odd, iv(-1, 5), nil, api.ErrTime}, {odd, iv(5, 366*86400+1), nil, api.ErrLimit}, {odd, iv(5, 86400), nil, api.OK}, {mixed, iv(5, 2*86400), []api.Interval{iv(86400, 86460)}, api.OK},
	} {
		if l, e := Enforced(x.z, x.i); !slices.Equal(l, x.want) || e != x.e {
			t.Error(i, l, int(e))
		}
	}
}

// P26.5
func TestNext(t *testing.T) {
	z := example()
	monday := api.Zone{Hours: []api.Window{win(1, 0, 1)}}
	odd := api.Zone{Hours: []api.Window{win(0, 0, 1440)}}
	last := api.MaxTime - 1
	for i, x := range []struct {
		z    api.Zone
		t    int
		want int
		ok   bool
	}{
		{z, 64800, 115200, true}, {z, 410400, 633600, true}, {z, 28800, 28800, true}, {z, 28799, 28800, true}, {z, 0, 28800, true}, {z, 64799, 64799, true}, {monday, 0, 0, true}, {monday, 59, 59, true}, {monday, 60, 7 * 86400, true}, {monday, 7*86400 - 1, 7 * 86400, true},
		{api.Zone{}, 77, 77, true}, {api.Zone{}, last, last, true}, {api.Zone{}, api.MaxTime, 0, false}, {api.Zone{}, -1, 0, false}, {odd, 5, 0, false}, {z, math.MaxInt, 0, false}, {z, math.MinInt, 0, false},
		{api.Zone{Hours: []api.Window{win(1<<(api.MaxDay%7), 0, 1)}}, last, 0, false}, {api.Zone{Hours: []api.Window{win(1<<(api.MaxDay%7), 0, 1)}}, api.MaxDay*86400 - 5, api.MaxDay * 86400, true}, {api.Zone{Hours: []api.Window{win(127, 1439, 1440)}}, last, 0, false},
	} {
		if n, ok := Next(x.z, x.t); n != x.want || ok != x.ok {
			t.Error(i, n, ok)
		}
	}
}

// P26.6, P26.7
func TestConsequences(t *testing.T) {
	r := rand.New(rand.NewSource(1))
	for range 400 {
		var z api.Zone
		for range 1 + r.Intn(3) {
			from := r.Intn(1440)
			z.Hours = append(z.Hours, win(1+r.Intn(127), from, from+1+r.Intn(1440-from)))
		}
		a := r.Intn(10 * 86400)
		b := a + 1 + r.Intn(4*86400)
		c := b + 1 + r.Intn(4*86400)
		whole, e := Enforced(z, iv(a, c))
		left, _ := Enforced(z, iv(a, b))
		right, _ := Enforced(z, iv(b, c))
		if n := len(left); n > 0 && len(right) > 0 && left[n-1].To == right[0].From {
			left[n-1].To = right[0].To
			right = right[1:]
		}
		if e != api.OK || !slices.Equal(whole, append(left, right...)) {
			t.Fatal(z, a, b, c, whole, left, right)
		}
		for range 100 {
			at := a + r.Intn(c-a)
			has := slices.ContainsFunc(whole, func(i api.Interval) bool { return i.From <= at && at < i.To })
			if has != Open(z, at) {
				t.Fatal(z, at, whole)
			}
			n, ok := Next(z, at)
			if !ok || n < at || n > at+7*86400 || !Open(z, n) {
				t.Fatal(z, at, n, ok)
			}
			if between, _ := Enforced(z, iv(at, max(n, at+1))); n > at && len(between) > 0 {
				t.Fatal(z, at, n, between)
			}
		}
	}
}
