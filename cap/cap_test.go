package cap

import (
	"math"
	"math/rand"
	"slices"
	"strconv"
	"testing"
	"time"

	"tollway/api"
)

func limit(name, system string, days, cents int) api.Cap {
	return api.Cap{Name: name, System: system, Days: days, Cents: cents}
}

func charge(system string, time, cents int) api.Charge {
	return api.Charge{System: system, Time: time, Cents: cents}
}

// P25.1
func TestCheck(t *testing.T) {
	for _, x := range []struct {
		c api.Cap
		e api.Errno
	}{
		{limit("a", "", 0, 0), api.OK}, {limit("a", "s", 1, api.MaxMoney), api.OK}, {limit("A", "S", 2, -1), api.ErrName}, {limit("", "", 0, 0), api.ErrName}, {limit("a", "S", 2, -1), api.ErrName}, {limit("a", "", 2, -1), api.ErrArg}, {limit("a", "", -1, 0), api.ErrArg}, {limit("a", "", 0, -1), api.ErrMoney}, {limit("a", "", 0, api.MaxMoney+1), api.ErrMoney}, {limit("a", "", 1, math.MinInt), api.ErrMoney},
	} {
		if e := Check(x.c); e != x.e {
			t.Error(x, int(e))
		}
	}
}

// P25.2
func TestPeriod(t *testing.T) {
	day, month, odd := limit("a", "", 1, 0), limit("a", "", 0, 0), limit("a", "", 2, 0)
	last := api.MaxDay * 86400
	for _, x := range []struct{ t, day, month int }{
		{0, 0, 0}, {86399, 0, 0}, {86400, 1, 0}, {31*86400 - 1, 30, 0}, {31 * 86400, 31, 1}, {365 * 86400, 365, 12}, {-1, -1, -1}, {math.MinInt, -1, -1}, {api.MaxTime, -1, -1}, {last, api.MaxDay, -1}, {last - 1, api.MaxDay - 1, 12*2177 + 7}, {api.MaxTime - 1, api.MaxDay, -1},
	} {
		if a, b, c := Period(day, x.t), Period(month, x.t), Period(odd, x.t); a != x.day || b != x.month || c != -1 {
			t.Error(x, a, b, c)
		}
	}
	r := rand.New(rand.NewSource(1))
	for range 1000 {
		at := r.Intn(api.MaxDay * 86400)
		d := time.Unix(int64(at)+time.Date(2001, 1, 1, 0, 0, 0, 0, time.UTC).Unix(), 0).UTC()
		if n := Period(month, at); n != (d.Year()-2001)*12+int(d.Month())-1 {
			t.Fatal(at, n, d)
		}
	}
	for _, x := range []struct {
		cap, system string
		want        bool
	}{{"", "s", true}, {"", "", true}, {"s", "s", true}, {"s", "t", false}, {"s", "", false}} {
		if Matches(limit("a", x.cap, 0, 0), charge(x.system, 0, 0)) != x.want {
			t.Error(x)
		}
	}
}

// P25.3
func TestLeft(t *testing.T) {
	day := limit("a", "s", 1, 500)
	l := []api.Charge{charge("s", 10, 300), charge("t", 20, 1000), charge("s", 86400, 100), charge("s", -1, 100)}
	for at, want := range map[int]int{0: 200, 86399: 200, 86400: 400, 172800: 500, -1: 0, api.MaxTime: 0} {
		if n := Left(day, l, at); n != want {
			t.Error(at, n)
		}
	}
	if n := Left(day, append(l, charge("s", 86399, 300)), 5); n != 0 {
		t.Error(n)
	}
	if n := Left(limit("a", "", 0, 5000), l, 31*86400-1); n != 3600 {
		t.Error(n)
	}
	if n := Left(limit("a", "", 3, 5000), nil, 5); n != 0 {
		t.Error(n)
	}
	if n := Left(limit("a", "", 0, 5000), nil, api.MaxTime-1); n != 0 {
		t.Error(n)
	}
	if n := Left(limit("a", "", 1, 5000), []api.Charge{charge("", api.MaxTime-1, 1)}, api.MaxTime-1); n != 4999 {
		t.Error(n)
	}
	// The sum of the charges need not fit an int.
	if n := Left(day, slices.Repeat([]api.Charge{charge("s", 5, api.MaxMoney)}, 20000), 5); n != 0 {
		t.Error(n)
	}
	if n := Left(limit("a", "", 1, math.MinInt), []api.Charge{charge("s", 5, 5)}, 5); n != 0 {
		t.Error(n)
	}
}

// P25.4
func TestApply(t *testing.T) {
	day, month := limit("a", "", 1, 500), limit("b", "", 0, 700)
	three := []api.Charge{charge("s", 10, 300), charge("s", 20, 300), charge("s", 86400, 300)}
	keyed := func(key string, time, cents int) api.Charge {
		return api.Charge{Key: key, Time: time, Cents: cents}
	}
	for i, x := range []struct {
		l       []api.Cap
		charges []api.Charge
		want    []int
		e       api.Errno
	}{
		{[]api.Cap{day}, three, []int{300, 200, 300}, api.OK}, {[]api.Cap{day, month}, three, []int{300, 200, 200}, api.OK}, {nil, three, []int{300, 300, 300}, api.OK}, {[]api.Cap{day}, nil, nil, api.OK}, {[]api.Cap{limit("a", "t", 1, 500)}, three, []int{300, 300, 300}, api.OK}, {[]api.Cap{limit("a", "s", 1, 0)}, three, []int{0, 0, 0}, api.OK},
		{[]api.Cap{day}, []api.Charge{three[2], three[1], three[0]}, []int{300, 200, 300}, api.OK}, {[]api.Cap{day}, []api.Charge{keyed("b", 5, 400), keyed("a", 5, 400)}, []int{100, 400}, api.OK}, {[]api.Cap{day}, []api.Charge{keyed("a", 5, 400), keyed("a", 5, 300)}, []int{400, 100}, api.OK}, {[]api.Cap{day, limit("b", "s", 1, 100)}, []api.Charge{charge("t", 5, 300), charge("s", 6, 300), charge("t", 7, 300)}, []int{300, 100, 100}, api.OK},
		{make([]api.Cap, 13), make([]api.Charge, 1), nil, api.ErrLimit}, {[]api.Cap{{}}, make([]api.Charge, 1025), nil, api.ErrLimit}, {[]api.Cap{day, limit("A", "", 0, 0), limit("a", "", 9, 0)}, []api.Charge{charge("", 0, -1)}, nil, api.ErrName}, {[]api.Cap{limit("a", "", 9, 0)}, nil, nil, api.ErrArg}, {slices.Repeat([]api.Cap{day}, 12), slices.Repeat(three[:1], 1024), append([]int{300, 200}, make([]int, 1022)...), api.OK},
		{nil, []api.Charge{charge("", -1, -1)}, nil, api.ErrMoney}, {nil, []api.Charge{charge("", -1, 0), charge("", 0, -1)}, nil, api.ErrTime}, {nil, []api.Charge{charge("", 0, api.MaxMoney+1)}, nil, api.ErrMoney}, {nil, []api.Charge{charge("", api.MaxTime, 0)}, nil, api.ErrTime}, {nil, []api.Charge{charge("", api.MaxDay*86400, 0)}, nil, api.ErrTime}, {nil, []api.Charge{charge("", api.MaxDay*86400-1, api.MaxMoney)}, []int{api.MaxMoney}, api.OK},
	} {
		if l, e := Apply(x.l, x.charges); !slices.Equal(l, x.want) || e != x.e {
			t.Error(i, l, int(e))
		}
	}
}

// P25.4 to P25.7
func TestCaps(t *testing.T) {
	r := rand.New(rand.NewSource(2))
	for range 1000 {
		var caps []api.Cap
		for i := range r.Intn(4) {
			caps = append(caps, limit("c"+strconv.Itoa(i), []string{"", "s", "t"}[r.Intn(3)], r.Intn(2), r.Intn(800)))
		}
		charges := make([]api.Charge, r.Intn(10))
		for i := range charges {
			charges[i] = api.Charge{Key: strconv.Itoa(i), System: []string{"s", "t"}[r.Intn(2)], Time: 3600 * r.Intn(24*40), Cents: r.Intn(300)}
		}
		paid, e := Apply(caps, charges)
		if e != api.OK {
			t.Fatal(int(e))
		}
		reached := make([]bool, len(charges))
		for _, c := range caps {
			sums := map[int]int{}
			for i, x := range charges {
				if Matches(c, x) {
					sums[Period(c, x.Time)] += paid[i]
				}
			}
			for i, x := range charges {
				if n := sums[Period(c, x.Time)]; Matches(c, x) && n > c.Cents {
					t.Fatal("exceeded", c, charges, paid)
				} else if Matches(c, x) && n == c.Cents {
					reached[i] = true
				}
			}
		}
		for i, x := range charges {
			if paid[i] < 0 || paid[i] > x.Cents || paid[i] < x.Cents && !reached[i] {
				t.Fatal("not reached", caps, charges, paid)
			}
		}
		// The definition: each pays what the caps still permit after what was paid earlier.
		order := make([]int, len(charges))
		for i := range order {
			order[i] = i
		}
		slices.SortStableFunc(order, func(i, j int) int { return charges[i].Time*100 + i - charges[j].Time*100 - j })
		var before []api.Charge
		for _, i := range order {
			want := charges[i].Cents
			for _, c := range caps {
				if Matches(c, charges[i]) {
					want = min(want, Left(c, before, charges[i].Time))
				}
			}
			if paid[i] != want {
				t.Fatal(caps, charges, paid, i, want)
			}
			x := charges[i]
			x.Cents = want
			before = append(before, x)
		}
		shuffled := slices.Clone(charges)
		r.Shuffle(len(shuffled), func(i, j int) { shuffled[i], shuffled[j] = shuffled[j], shuffled[i] })
		again, _ := Apply(caps, shuffled)
		for i, x := range shuffled {
			k, _ := strconv.Atoi(x.Key)
			if again[i] != paid[k] {
				t.Fatal("the order matters", caps, charges)
			}
		}
		more, _ := Apply(caps, append(slices.Clone(charges), api.Charge{Key: "z", System: "s", Time: 3600 * 24 * 40, Cents: 100}))
		if !slices.Equal(more[:len(paid)], paid) {
			t.Fatal("a later charge matters")
		}
	}
}
