package clock

import (
	"math"
	"math/rand"
	"slices"
	"testing"
	"time"

	"tollway/api"
)

// P4.1
func TestDayAndMinute(t *testing.T) {
	for _, x := range []struct{ t, day, minute int }{
		{0, 0, 0}, {59, 0, 0}, {60, 0, 1}, {86399, 0, 1439}, {86400, 1, 0}, {-1, -1, -1}, {math.MinInt, -1, -1}, {api.MaxTime - 1, api.MaxDay, (api.MaxTime - 1) % 86400 / 60}, {api.MaxTime, -1, -1}, {math.MaxInt, -1, -1},
	} {
		if d, m := Day(x.t), Minute(x.t); d != x.day || m != x.minute {
			t.Error(x, d, m)
		}
	}
}

// P4.2
func TestWeekday(t *testing.T) {
	for day, want := range map[int]int{0: 0, 4: 4, 6: 6, 7: 0, -1: -1, api.MaxDay: -1, api.MaxDay - 1: (api.MaxDay - 1) % 7, math.MinInt: -1, math.MaxInt: -1} {
		if n := Weekday(day); n != want {
			t.Error(day, n)
		}
	}
}

// P4.3, P4.8: every day that is valid.
func TestDate(t *testing.T) {
	at := time.Date(2001, 1, 1, 0, 0, 0, 0, time.UTC)
	for day := range api.MaxDay {
		y, m, d := Date(day)
		if y != at.Year() || m != int(at.Month()) || d != at.Day() || Weekday(day) != (int(at.Weekday())+6)%7 {
			t.Fatal(day, y, m, d, at)
		}
		if n, e := DayOf(y, m, d); n != day || e != api.OK {
			t.Fatal(day, n, int(e))
		}
		at = at.AddDate(0, 0, 1)
	}
	for _, day := range []int{-1, api.MaxDay, math.MinInt, math.MaxInt} {
		if y, m, d := Date(day); y != 0 || m != 0 || d != 0 {
			t.Error(day, y, m, d)
		}
	}
}

// P4.4
func TestDayOf(t *testing.T) {
	y, m, d := Date(api.MaxDay - 1)
	next := time.Date(y, time.Month(m), d+1, 0, 0, 0, 0, time.UTC)
	for _, x := range []struct {
		y, m, d, day int
		e            api.Errno
	}{
		{2001, 1, 1, 0, api.OK}, {2001, 2, 28, 58, api.OK}, {2001, 3, 1, 59, api.OK}, {2004, 2, 29, 1154, api.OK}, {2001, 12, 31, 364, api.OK}, {y, m, d, api.MaxDay - 1, api.OK},
		{2004, 2, 30, 0, api.ErrArg}, {2003, 2, 29, 0, api.ErrArg}, {2100, 2, 29, 0, api.ErrArg}, {2001, 0, 1, 0, api.ErrArg}, {2001, 13, 1, 0, api.ErrArg}, {2001, 1, 0, 0, api.ErrArg}, {2001, 1, 32, 0, api.ErrArg}, {2001, 4, 31, 0, api.ErrArg}, {2001, math.MinInt, 1, 0, api.ErrArg}, {2001, 1, math.MaxInt, 0, api.ErrArg},
		{9999, 13, 1, 0, api.ErrArg}, {9999, 12, 31, 0, api.ErrTime}, {2000, 13, 1, 0, api.ErrTime}, {2000, 12, 31, 0, api.ErrTime}, {10000, 1, 1, 0, api.ErrTime}, {10000, 0, 0, 0, api.ErrTime}, {math.MinInt, 1, 1, 0, api.ErrTime}, {next.Year(), int(next.Month()), next.Day(), 0, api.ErrTime},
	} {
		if day, e := DayOf(x.y, x.m, x.d); day != x.day || e != x.e {
			t.Error(x, day, int(e))
		}
	}
	for m := 1; m <= 12; m++ {
		last := time.Date(2001, time.Month(m)+1, 0, 0, 0, 0, 0, time.UTC).Day()
		if _, e := DayOf(2001, m, last); e != api.OK {
			t.Error(m, int(e))
		}
		if day, e := DayOf(2001, m, last+1); day != 0 || e != api.ErrArg {
			t.Error(m, day, int(e))
		}
	}
	if day, e := DayOf(2400, 2, 29); e != api.OK || day != int(time.Date(2400, 2, 29, 0, 0, 0, 0, time.UTC).Sub(time.Date(2200, 1, 1, 0, 0, 0, 0, time.UTC)).Hours()/24)+int(time.Date(2200, 1, 1, 0, 0, 0, 0, time.UTC).Sub(time.Date(2001, 1, 1, 0, 0, 0, 0, time.UTC)).Hours()/24) {
		t.Error(day, int(e))
	}
}

// P4.5
func TestIn(t *testing.T) {
	monday := api.Window{Days: 1, From: 60, To: 120}
	last := api.MaxTime - 1
	for _, x := range []struct {
		w    api.Window
		t    int
		want bool
	}{
		{monday, 3600, true}, {monday, 3599, false}, {monday, 7199, true}, {monday, 7200, false}, {monday, 3600 + 86400, false}, {monday, 3600 + 7*86400, true},
		{api.Window{Days: 64, To: 1440}, 6 * 86400, true}, {api.Window{Days: 64, To: 1440}, 5 * 86400, false}, {api.Window{Days: 127, To: 1440}, 86399, true},
		{api.Window{Days: 127, To: 1440}, -1, false}, {api.Window{Days: 127, To: 1440}, last, true}, {api.Window{Days: 1 << (api.MaxDay % 7), To: 1440}, last, true}, {api.Window{Days: 127 - 1<<(api.MaxDay%7), To: 1440}, last, false}, {api.Window{Days: 127, To: 1440}, last + 1, false},
		{api.Window{Days: 0, To: 1440}, 0, false}, {api.Window{Days: 128, To: 1440}, 0, false}, {api.Window{Days: 129, To: 1440}, 0, false}, {api.Window{Days: -1, To: 1440}, 0, false}, {api.Window{Days: 127, From: -1, To: 1440}, 0, false}, {api.Window{Days: 127, To: 1441}, 0, false}, {api.Window{Days: 127, From: 5, To: 5}, 300, false}, {api.Window{Days: 127, From: 6, To: 5}, 300, false},
	} {
		if In(x.w, x.t) != x.want {
			t.Error(x)
		}
	}
}

// P4.6
func TestSpans(t *testing.T) {
	monday := api.Window{Days: 1, From: 60, To: 120}
	always := api.Window{Days: 127, To: 1440}
	day := api.MaxDay * 86400
	for _, x := range []struct {
		w    api.Window
		i    api.Interval
		want []api.Interval
		e    api.Errno
	}{
		{monday, api.Interval{From: 5000, To: 700000}, []api.Interval{{From: 5000, To: 7200}, {From: 608400, To: 612000}}, api.OK},
		{monday, api.Interval{From: 0, To: 3600}, nil, api.OK}, {monday, api.Interval{From: 0, To: 3601}, []api.Interval{{From: 3600, To: 3601}}, api.OK}, {monday, api.Interval{From: 7199, To: 8000}, []api.Interval{{From: 7199, To: 7200}}, api.OK}, {monday, api.Interval{From: 7200, To: 8000}, nil, api.OK},
		{always, api.Interval{From: 5, To: 366 * 86400}, []api.Interval{{From: 5, To: 366 * 86400}}, api.OK}, {always, api.Interval{From: 86399, To: 366*86400 + 1}, nil, api.ErrLimit}, {always, api.Interval{From: 86400, To: 366*86400 + 1}, []api.Interval{{From: 86400, To: 366*86400 + 1}}, api.OK},
		{api.Window{Days: 3, To: 1440}, api.Interval{From: 0, To: 8 * 86400}, []api.Interval{{From: 0, To: 2 * 86400}, {From: 7 * 86400, To: 8 * 86400}}, api.OK}, {api.Window{Days: 3, From: 1, To: 1440}, api.Interval{From: 0, To: 2 * 86400}, []api.Interval{{From: 60, To: 86400}, {From: 86460, To: 2 * 86400}}, api.OK},
		{always, api.Interval{From: day, To: api.MaxTime}, []api.Interval{{From: day, To: api.MaxTime}}, api.OK}, {api.Window{Days: 1 << (api.MaxDay % 7), To: 1}, api.Interval{From: day - 5, To: api.MaxTime}, []api.Interval{{From: day, To: day + 60}}, api.OK},
		{always, api.Interval{From: 5, To: 5}, nil, api.ErrTime}, {always, api.Interval{From: -1, To: 5}, nil, api.ErrTime}, {always, api.Interval{From: 1, To: api.MaxTime + 1}, nil, api.ErrTime}, {always, api.Interval{From: 0, To: api.MaxTime}, nil, api.ErrLimit}, {always, api.Interval{From: math.MinInt, To: math.MaxInt}, nil, api.ErrTime},
		{api.Window{Days: 128, To: 1440}, api.Interval{From: 0, To: 86400}, nil, api.OK}, {api.Window{}, api.Interval{From: 0, To: 86400}, nil, api.OK}, {api.Window{}, api.Interval{}, nil, api.ErrTime}, {api.Window{}, api.Interval{From: 0, To: api.MaxTime}, nil, api.ErrLimit}, {api.Window{Days: 127, From: -1, To: 1440}, api.Interval{From: 0, To: 86400}, nil, api.OK}, {api.Window{Days: 127, From: 9, To: 1441}, api.Interval{From: 0, To: 86400}, nil, api.OK},
	} {
		if l, e := Spans(x.w, x.i); !slices.Equal(l, x.want) || e != x.e {
			t.Error(x, l, int(e))
		}
	}
}

// P4.6, P4.9
func TestSpansContainTheTimes(t *testing.T) {
	r := rand.New(rand.NewSource(1))
	for range 500 {
		w := api.Window{Days: r.Intn(129) - 1, From: r.Intn(1440), To: r.Intn(1442)}
		if r.Intn(3) == 0 {
			w.From, w.To = 0, 1440
		}
		from := r.Intn(20 * 86400)
		if r.Intn(4) == 0 {
			from = api.MaxTime - 1 - r.Intn(10*86400)
		}
		i := api.Interval{From: from, To: min(api.MaxTime, from+1+r.Intn(12*86400))}
		l, e := Spans(w, i)
		if e != api.OK {
			t.Fatal(w, i, int(e))
		}
		for k, x := range l {
			if x.From >= x.To || k > 0 && l[k-1].To >= x.From {
				t.Fatal("no normal form", w, i, l)
			}
		}
		for range 200 {
			at := i.From + r.Intn(i.To-i.From)
			if r.Intn(2) == 0 && len(l) > 0 {
				x := l[r.Intn(len(l))]
				at = []int{x.From - 1, x.From, x.To - 1, x.To}[r.Intn(4)]
			}
			if at < i.From || at >= i.To {
				continue
			}
			has := slices.ContainsFunc(l, func(x api.Interval) bool { return x.From <= at && at < x.To })
			if has != In(w, at) {
				t.Fatal(w, i, at, l)
			}
		}
	}
}

// P4.7
func TestLater(t *testing.T) {
	for _, x := range []struct {
		cal          []int
		day, n, want int
		e            api.Errno
	}{
		{nil, 0, 0, 0, api.OK}, {nil, 5, 0, 5, api.OK}, {[]int{3}, 3, 0, 3, api.OK}, {nil, 0, 1, 1, api.OK}, {nil, 3, 1, 4, api.OK}, {nil, 4, 1, 7, api.OK}, {nil, 5, 1, 7, api.OK}, {nil, 6, 1, 7, api.OK}, {nil, 0, 5, 7, api.OK},
		{[]int{4}, 3, 1, 7, api.OK}, {[]int{8, 4, 7, 4, -5, math.MinInt, math.MaxInt}, 3, 1, 9, api.OK}, {[]int{3}, 3, 1, 4, api.OK}, {[]int{5, 6}, 4, 1, 7, api.OK}, {nil, 0, 4096, 4096/5*7 + 1, api.OK},
		{nil, -1, 0, 0, api.ErrTime}, {nil, api.MaxDay, 0, 0, api.ErrTime}, {nil, -1, -1, 0, api.ErrTime}, {nil, 0, -1, 0, api.ErrArg}, {nil, 0, 4097, 0, api.ErrArg}, {nil, api.MaxDay - 1, 4097, 0, api.ErrArg}, {nil, api.MaxDay - 1, 0, api.MaxDay - 1, api.OK}, {nil, api.MaxDay - 1, 1, 0, api.ErrTime}, {nil, api.MaxDay - 100, 4096, 0, api.ErrTime},
	} {
		if day, e := Later(x.cal, x.day, x.n); day != x.want || e != x.e {
			t.Error(x, day, int(e))
		}
	}
}

// P4.7, P4.10
func TestLaterCounts(t *testing.T) {
	r := rand.New(rand.NewSource(2))
	for range 500 {
		cal := make([]int, r.Intn(20))
		for i := range cal {
			cal[i] = r.Intn(60) - 5
		}
		day, n := r.Intn(40), 1+r.Intn(30)
		want, left := day, n
		for left > 0 {
			want++
			if want%7 < 5 && !slices.Contains(cal, want) {
				left--
			}
		}
		got, e := Later(cal, day, n)
		before, _ := Later(cal, day, n-1)
		after, _ := Later(cal, before, 1)
		if got != want || e != api.OK || after != want {
			t.Error(cal, day, n, got, after, int(e))
		}
	}
}
