package notice

import (
	"math"
	"math/rand"
	"strings"
	"testing"

	"tollway/api"
)

func law() api.Law {
	return api.Law{Days: []int{5, 10, 10, 20}, Fees: []int{100, 200, 300, 1000}, Limit: 1000}
}

func fresh(day int) api.Case {
	return api.Case{ID: "v1", Plate: "AB1", Key: "k", Begun: day, Since: day, Stage: api.SNew, Owed: 500}
}

// P38.1
func TestCheck(t *testing.T) {
	for i, x := range []struct {
		change func(w *api.Law)
		e      api.Errno
	}{
		{func(w *api.Law) {}, api.OK}, {func(w *api.Law) { w.Days = w.Days[:3] }, api.ErrLimit}, {func(w *api.Law) { w.Days[0], w.Fees = 0, append(w.Fees, 5) }, api.ErrLimit}, {func(w *api.Law) { w.Fees = nil }, api.ErrLimit}, {func(w *api.Law) { w.Days[0], w.Fees[0] = 0, -1 }, api.ErrArg}, {func(w *api.Law) { w.Days[3] = 4097 }, api.ErrArg}, {func(w *api.Law) { w.Days[3] = 4096 }, api.OK}, {func(w *api.Law) { w.Days[3] = 1 }, api.OK}, {func(w *api.Law) { w.Fees[3], w.Limit = -1, 0 }, api.ErrMoney}, {func(w *api.Law) { w.Fees[0] = api.MaxNumber + 1 }, api.ErrMoney}, {func(w *api.Law) { w.Fees[0], w.Fees[1] = api.MaxNumber, 0 }, api.OK}, {func(w *api.Law) { w.Limit = 0 }, api.ErrTime}, {func(w *api.Law) { w.Limit = api.MaxDay }, api.ErrTime}, {func(w *api.Law) { w.Limit = api.MaxDay - 1 }, api.OK}, {func(w *api.Law) { w.Limit = 1 }, api.OK}, {func(w *api.Law) { *w = api.Law{} }, api.ErrLimit},
	} {
		w := law()
		x.change(&w)
		if e := Check(w); e != x.e {
			t.Error(i, int(e))
		}
		if x.e == api.OK {
			continue
		}
		if day, ok := Due(w, nil, fresh(0)); day != 0 || ok {
			t.Error("Due", i, day)
		}
		if c, e := Advance(w, nil, fresh(0), -1); c != (api.Case{}) || e != x.e {
			t.Error("Advance", i, c, int(e))
		}
	}
}

// P38.2
func TestNew(t *testing.T) {
	for i, x := range []struct {
		id, plate, key string
		cents, day     int
		e              api.Errno
	}{
		{"v1", "AB1", "k", 500, 0, api.OK}, {"!", "001000000016", "~", api.MaxMoney, api.MaxDay - 1, api.OK}, {strings.Repeat("x", 512), "AB1", strings.Repeat("k", 512), 1, 0, api.OK},
		{"", "", "", 0, -1, api.ErrForm}, {"a b", "AB1", "k", 1, 0, api.ErrForm}, {strings.Repeat("x", 513), "AB1", "k", 1, 0, api.ErrForm}, {"é", "AB1", "k", 1, 0, api.ErrForm}, {"v1", "ab1", "", 0, -1, api.ErrPlate}, {"v1", "001000000017", "k", 1, 0, api.ErrPlate}, {"v1", "A", "k", 1, 0, api.ErrPlate}, {"v1", "AB1", "", 0, -1, api.ErrForm}, {"v1", "AB1", "a b", 1, 0, api.ErrForm}, {"v1", "AB1", "k", 0, -1, api.ErrMoney}, {"v1", "AB1", "k", api.MaxMoney + 1, -1, api.ErrMoney}, {"v1", "AB1", "k", -5, 0, api.ErrMoney}, {"v1", "AB1", "k", 1, -1, api.ErrTime}, {"v1", "AB1", "k", 1, api.MaxDay, api.ErrTime},
	} {
		want := api.Case{}
		if x.e == api.OK {
			want = api.Case{ID: x.id, Plate: x.plate, Key: x.key, Begun: x.day, Since: x.day, Stage: api.SNew, Owed: x.cents}
		}
		if c, e := New(x.id, x.plate, x.key, x.cents, x.day); c != want || e != x.e {
			t.Error(i, c, int(e))
		}
	}
}

// P38.3, P38.7
func TestOpen(t *testing.T) {
	for stage := -1; stage < 10; stage++ {
		x := fresh(0)
		x.Stage = stage
		open := stage >= 1 && stage <= 5
		if Open(x) != open {
			t.Error(stage)
		}
		c, e := Waive(x)
		want := x
		if open {
			want.Stage = api.SWaived
		}
		if c != want || (e == api.OK) != open || !open && e != api.ErrCase {
			t.Error(stage, c, int(e))
		}
		if c, n, e := Pay(x, -1); c != x || n != 0 || open && e != api.ErrMoney || !open && e != api.ErrCase {
			t.Error(stage, c, n, int(e))
		}
	}
}

// P38.4
func TestDue(t *testing.T) {
	for i, x := range []struct {
		change func(c *api.Case)
		cal    []int
		day    int
		ok     bool
	}{
		{func(c *api.Case) {}, nil, 7, true}, {func(c *api.Case) {}, []int{1, 7}, 9, true}, {func(c *api.Case) { c.Stage = api.SNotice }, nil, 14, true}, {func(c *api.Case) { c.Stage = api.SPenalty }, nil, 28, true}, {func(c *api.Case) { c.Stage = api.SCourt }, nil, 0, false}, {func(c *api.Case) { c.Stage = api.SPaid }, nil, 0, false}, {func(c *api.Case) { c.Stage = 0 }, nil, 0, false}, {func(c *api.Case) { c.Stage = math.MinInt }, nil, 0, false},
		{func(c *api.Case) { c.Appeal.State = 1 }, nil, 0, false}, {func(c *api.Case) { c.Appeal.State = 3 }, nil, 7, true}, {func(c *api.Case) { c.Since = -1 }, nil, 0, false}, {func(c *api.Case) { c.Since = api.MaxDay - 3 }, nil, 0, false}, {func(c *api.Case) { c.Since = 3 }, nil, 10, true}, {func(c *api.Case) { c.Begun, c.Paused, c.Owed = -5, -5, -5 }, nil, 7, true},
	} {
		c := fresh(0)
		x.change(&c)
		if day, ok := Due(law(), x.cal, c); day != x.day || ok != x.ok {
			t.Error(i, day, ok)
		}
	}
}

// P38.5: the examples and the errors
func TestAdvance(t *testing.T) {
	at := func(stage, since, owed int) func(c *api.Case) {
		return func(c *api.Case) { c.Stage, c.Since, c.Owed = stage, since, owed }
	}
	none := func(c *api.Case) {}
	for i, x := range []struct {
		limit  int
		change func(c *api.Case)
		day    int
		want   func(c *api.Case)
		e      api.Errno
	}{
		{1000, none, 6, none, api.OK}, {1000, none, 7, at(2, 7, 600), api.OK}, {1000, none, 20, at(2, 7, 600), api.OK}, {1000, none, 21, at(3, 21, 800), api.OK}, {1000, none, 35, at(4, 35, 1100), api.OK}, {1000, none, 63, at(5, 63, 2100), api.OK}, {1000, none, 100, at(5, 63, 2100), api.OK}, {1000, none, 5000, at(5, 63, 2100), api.OK},
		{20, none, 100, at(8, 20, 600), api.OK}, {20, none, 19, at(2, 7, 600), api.OK}, {20, none, 20, at(8, 20, 600), api.OK}, {7, none, 7, at(8, 7, 500), api.OK}, {6, none, 7, at(8, 6, 500), api.OK}, {8, none, 7, at(2, 7, 600), api.OK}, {21, none, 21, at(8, 21, 600), api.OK}, {62, none, 63, at(8, 62, 1100), api.OK}, {64, none, 64, at(5, 63, 2100), api.OK},
		{20, func(c *api.Case) { c.Paused = 2 }, 21, func(c *api.Case) { c.Paused = 2; at(3, 21, 800)(c) }, api.OK}, {20, func(c *api.Case) { c.Paused = 2 }, 22, func(c *api.Case) { c.Paused = 2; at(8, 22, 800)(c) }, api.OK}, {5, at(2, 40, 600), 40, at(8, 40, 600), api.OK}, {5, at(5, 40, 600), 9999, at(5, 40, 600), api.OK},
		{1000, at(1, 0, api.MaxMoney-5), 7, at(2, 7, api.MaxMoney), api.OK}, {1000, at(6, 0, 500), 100, at(6, 0, 500), api.OK}, {1000, at(0, 0, 500), 100, at(0, 0, 500), api.OK}, {1000, func(c *api.Case) { c.Appeal.State = 1 }, 100, func(c *api.Case) { c.Appeal.State = 1 }, api.OK}, {20, func(c *api.Case) { c.Appeal.State = 1 }, 100, func(c *api.Case) { c.Appeal.State = 1 }, api.OK}, {1000, func(c *api.Case) { c.Owed = 0 }, 6, func(c *api.Case) { c.Owed = 0 }, api.OK}, {1000, func(c *api.Case) { c.Owed = api.MaxMoney }, 7, at(2, 7, api.MaxMoney), api.OK}, {1000, func(c *api.Case) { c.Appeal.State = 3 }, 7, func(c *api.Case) { c.Appeal.State = 3; at(2, 7, 600)(c) }, api.OK}, {1000, func(c *api.Case) { c.Paid = 9999 }, 7, func(c *api.Case) { c.Paid = 9999; at(2, 7, 600)(c) }, api.OK},
		{1000, none, -1, nil, api.ErrTime}, {1000, none, api.MaxDay, nil, api.ErrTime}, {1000, func(c *api.Case) { c.Begun, c.Owed = -1, -1 }, 5, nil, api.ErrTime}, {1000, func(c *api.Case) { c.Begun = api.MaxDay }, 5, nil, api.ErrTime}, {1000, func(c *api.Case) { c.Since = -1 }, 5, nil, api.ErrTime}, {1000, func(c *api.Case) { c.Since = api.MaxDay }, 5, nil, api.ErrTime}, {1000, func(c *api.Case) { c.Paused = -1 }, 5, nil, api.ErrTime}, {1000, func(c *api.Case) { c.Paused = api.MaxDay + 1 }, 5, nil, api.ErrTime}, {1000, func(c *api.Case) { c.Paused = api.MaxDay }, 5, func(c *api.Case) { c.Paused = api.MaxDay }, api.OK},
		{1000, func(c *api.Case) { c.Owed, c.Since = -1, 50 }, 5, nil, api.ErrMoney}, {1000, func(c *api.Case) { c.Owed = api.MaxMoney + 1 }, 5, nil, api.ErrMoney}, {1000, func(c *api.Case) { c.Since = 6 }, 5, nil, api.ErrOrder}, {1000, func(c *api.Case) { c.Since, c.Stage = 6, api.SPaid }, 5, nil, api.ErrOrder},
		{1000, func(c *api.Case) { c.Begun, c.Since = api.MaxDay-3, api.MaxDay-3 }, api.MaxDay - 1, func(c *api.Case) { c.Begun, c.Since = api.MaxDay-3, api.MaxDay-3 }, api.OK}, {1, func(c *api.Case) { c.Begun, c.Since = api.MaxDay-3, api.MaxDay-3 }, api.MaxDay - 1, func(c *api.Case) { c.Begun = api.MaxDay - 3; at(8, api.MaxDay-2, 500)(c) }, api.OK},
	} {
		w := law()
		w.Limit = x.limit
		c, want := fresh(0), fresh(0)
		x.change(&c)
		if x.e == api.OK {
			x.want(&want)
		} else {
			want = api.Case{} // R3: the first parameter is not the case
		}
		if r, e := Advance(w, nil, c, x.day); r != want || e != x.e {
			t.Error(i, r, int(e), "want", want)
		}
	}
}

// P38.6
func TestPay(t *testing.T) {
	for i, x := range []struct {
		owed, paid, cents int
		stage, now, left  int
		e                 api.Errno
	}{
		{600, 0, 200, 2, 200, 0, api.OK}, {600, 200, 500, 6, 600, 100, api.OK}, {600, 200, 400, 6, 600, 0, api.OK}, {600, 200, 399, 2, 599, 0, api.OK}, {600, 600, 5, 6, 600, 5, api.OK}, {600, 700, 5, 6, 700, 5, api.OK}, {0, 0, api.MaxMoney, 6, 0, api.MaxMoney, api.OK}, {api.MaxMoney, 0, api.MaxMoney, 6, api.MaxMoney, 0, api.OK},
		{600, 0, 0, 2, 0, 0, api.ErrMoney}, {600, 0, -5, 2, 0, 0, api.ErrMoney}, {600, 0, api.MaxMoney + 1, 2, 0, 0, api.ErrMoney}, {-1, 0, 5, 2, 0, 0, api.ErrMoney}, {api.MaxMoney + 1, 0, 5, 2, 0, 0, api.ErrMoney}, {600, -1, 5, 2, -1, 0, api.ErrMoney}, {600, api.MaxMoney + 1, 5, 2, api.MaxMoney + 1, 0, api.ErrMoney}, {600, 0, math.MinInt, 2, 0, 0, api.ErrMoney}, {600, 0, math.MaxInt, 2, 0, 0, api.ErrMoney},
	} {
		c := fresh(0)
		c.Stage, c.Owed, c.Paid = 2, x.owed, x.paid
		want := c
		want.Stage, want.Paid = x.stage, x.now
		if r, n, e := Pay(c, x.cents); r != want || n != x.left || e != x.e {
			t.Error(i, r, n, int(e))
		}
	}
}

// P38.8 to P38.10
func TestConsequences(t *testing.T) {
	r := rand.New(rand.NewSource(1))
	for range 3000 {
		w := api.Law{Limit: 1 + r.Intn(120)}
		for range 4 {
			w.Days = append(w.Days, 1+r.Intn(20))
			w.Fees = append(w.Fees, r.Intn(300))
		}
		var cal []int
		for range r.Intn(6) {
			cal = append(cal, r.Intn(100))
		}
		x := fresh(r.Intn(30))
		x.Since += r.Intn(10)
		x.Stage, x.Paused = 1+r.Intn(8), r.Intn(20)
		a := x.Since + r.Intn(100)
		b := a + r.Intn(100)
		first, e := Advance(w, cal, x, a)
		second, f := Advance(w, cal, first, b)
		direct, g := Advance(w, cal, x, b)
		if first.Since <= a && (second != direct || f != g) || e != api.OK {
			t.Fatal(w, cal, x, a, b, first, second, direct)
		}
		if first.Stage < x.Stage {
			t.Fatal("an earlier stage", x, first)
		}
		if day, ok := Due(w, cal, first); ok && day <= a {
			t.Fatal("due", first, day, a)
		}
		owed := x.Owed
		last := first.Stage
		if last == api.SBarred && x.Stage < api.SBarred { // the stages that were entered before it are told by what is owed
			last = x.Stage
			for n := owed; n < first.Owed; n = owed {
				owed += w.Fees[last-1]
				last++
			}
		} else {
			for s := x.Stage; s < first.Stage && first.Stage <= api.SCourt; s++ {
				owed += w.Fees[s-1]
			}
		}
		if first.Owed != owed {
			t.Fatal("fees", w, x, first, owed)
		}
		x.Owed, x.Paid = r.Intn(500), r.Intn(500)
		cents := 1 + r.Intn(600)
		p, left, e := Pay(x, cents)
		if Open(x) != (e == api.OK) || e == api.OK && (p.Paid-x.Paid+left != cents || Open(p) != (p.Owed > p.Paid)) {
			t.Fatal(x, cents, p, left)
		}
	}
}
