package money

import (
	"math"
	"math/big"
	"math/rand"
	"slices"
	"strings"
	"testing"

	"tollway/api"
)

const most = api.MaxMoney

// P3.1
func TestAdd(t *testing.T) {
	for _, x := range []struct {
		a, b, sum int
		e         api.Errno
	}{
		{1, 2, 3, api.OK}, {most, 0, most, api.OK}, {most, -1, most - 1, api.OK}, {most, 1, 0, api.ErrMoney}, {-most, -1, 0, api.ErrMoney}, {-most, 0, -most, api.OK},
		{most + 1, -5, 0, api.ErrMoney}, {-5, most + 1, 0, api.ErrMoney}, {-most - 1, 5, 0, api.ErrMoney}, {math.MaxInt, math.MinInt, 0, api.ErrMoney}, {math.MaxInt, 1, 0, api.ErrMoney}, {math.MinInt, math.MinInt, 0, api.ErrMoney},
	} {
		if n, e := Add(x.a, x.b); n != x.sum || e != x.e {
			t.Error(x, n, int(e))
		}
	}
	for n, want := range map[int]bool{0: true, most: true, -most: true, most + 1: false, -most - 1: false, math.MinInt: false, math.MaxInt: false} {
		if Fits(n) != want {
			t.Error(n)
		}
	}
}

// P3.1
func TestSum(t *testing.T) {
	full := slices.Repeat([]int{most, -most}, 512)
	half := append(slices.Repeat([]int{most}, 512), slices.Repeat([]int{-most}, 512)...)
	for _, x := range []struct {
		l   []int
		sum int
		e   api.Errno
	}{
		{nil, 0, api.OK}, {[]int{5}, 5, api.OK}, {[]int{5, -7, 1}, -1, api.OK}, {full, 0, api.OK}, {half, 0, api.OK}, {append(full[:1023:1023], 0), most, api.OK},
		{append(full, 1), 0, api.ErrLimit}, {append(full, most+1), 0, api.ErrLimit}, {[]int{most, 1}, 0, api.ErrMoney}, {[]int{-most, -1}, 0, api.ErrMoney}, {[]int{most + 1, -1}, 0, api.ErrMoney}, {[]int{math.MaxInt, math.MaxInt, 2}, 0, api.ErrMoney},
		{slices.Repeat([]int{most}, 1024), 0, api.ErrMoney}, {[]int{most, 1, -1}, most, api.OK},
	} {
		if n, e := Sum(x.l); n != x.sum || e != x.e {
			t.Error(len(x.l), n, int(e))
		}
	}
}

// P3.2
func TestRatio(t *testing.T) {
	for _, x := range []struct {
		n, num, den, mode, want int
		e                       api.Errno
	}{
		{100, 1, 3, api.Down, 33, api.OK}, {100, 1, 3, api.Up, 34, api.OK}, {100, 1, 3, api.Near, 33, api.OK}, {200, 1, 3, api.Near, 67, api.OK},
		{5, 1, 2, api.Near, 2, api.OK}, {7, 1, 2, api.Near, 4, api.OK}, {-7, 1, 2, api.Near, -4, api.OK}, {-7, 1, 2, api.Down, -3, api.OK}, {-7, 1, 2, api.Up, -4, api.OK}, {7, -1, -2, api.Up, 4, api.OK}, {-7, -1, -2, api.Down, -3, api.OK},
		{most, 1 << 62, 1 << 62, api.Down, most, api.OK}, {most, 2, 1, api.Down, 0, api.ErrMoney}, {most, math.MinInt, math.MinInt, api.Near, most, api.OK}, {-most, math.MaxInt, math.MaxInt, api.Up, -most, api.OK},
		{most, most + 1, most, api.Down, 0, api.ErrMoney}, {most, math.MaxInt, math.MaxInt - 1, api.Down, most, api.OK}, {most, math.MaxInt, math.MaxInt - 1, api.Up, 0, api.ErrMoney}, {most, math.MaxInt, math.MaxInt - 1, api.Near, most, api.OK},
		{most, math.MaxInt, 1, api.Down, 0, api.ErrMoney}, {most, 1 << 30, 1 << 16, api.Down, 0, api.ErrMoney}, {most, 1 << 14, 1, api.Up, 0, api.ErrMoney}, {0, math.MinInt, math.MinInt, api.Up, 0, api.OK}, {1, math.MaxInt, math.MinInt, api.Down, 0, api.OK}, {1, math.MaxInt, math.MinInt, api.Up, -1, api.OK},
		{1, 1, math.MinInt, api.Near, 0, api.OK}, {1, 1 << 62, math.MinInt, api.Near, 0, api.OK}, {3, 1 << 62, math.MinInt, api.Near, -2, api.OK},
		{most + 1, 1, 0, 9, 0, api.ErrMoney}, {-most - 1, 0, 1, 1, 0, api.ErrMoney}, {1, 1, 0, 0, 0, api.ErrArg}, {1, 1, 0, 4, 0, api.ErrArg}, {1, 1, 1, -1, 0, api.ErrArg}, {1, 1, 0, 3, 0, api.ErrZero},
	} {
		if n, e := Ratio(x.n, x.num, x.den, x.mode); n != x.want || e != x.e {
			t.Error(x, n, int(e))
		}
	}
}

func exact(n, num, den, mode int) *big.Int {
	p := new(big.Int).Mul(big.NewInt(int64(n)), big.NewInt(int64(num)))
	d := big.NewInt(int64(den))
	q, r := new(big.Int).QuoRem(p, d, new(big.Int))
	twice := new(big.Int).Abs(new(big.Int).Lsh(r, 1)).Cmp(new(big.Int).Abs(d))
	if mode == api.Up && r.Sign() != 0 || mode == api.Near && (twice > 0 || twice == 0 && q.Bit(0) == 1) {
		q.Add(q, big.NewInt(int64(p.Sign()*d.Sign())))
	}
	return q
}

func randomInt(r *rand.Rand) int { return int(r.Uint64()) >> r.Intn(64) }

// P3.2, P3.5
func TestRatioExact(t *testing.T) {
	r := rand.New(rand.NewSource(1))
	for range 20000 {
		n, num, den := r.Intn(2*most+1)-most, randomInt(r), randomInt(r)
		if r.Intn(2) == 0 {
			n, num, den = n%100, num%50, den%20
		}
		if den == 0 {
			continue
		}
		var got [4]int
		for mode := api.Down; mode <= api.Near; mode++ {
			want := exact(n, num, den, mode)
			x, e := Ratio(n, num, den, mode)
			if want.CmpAbs(big.NewInt(most)) > 0 {
				if e != api.ErrMoney || x != 0 {
					t.Fatal(n, num, den, mode, x, int(e), want)
				}
			} else if e != api.OK || big.NewInt(int64(x)).Cmp(want) != 0 {
				t.Fatal(n, num, den, mode, x, int(e), want)
			}
			got[mode] = x
			if y, _ := Ratio(-n, num, den, mode); y != -x {
				t.Fatal("-n:", n, num, den, mode)
			}
		}
		if d := got[api.Up] - got[api.Down]; got[api.Up] != 0 && (d < -1 || d > 1) || got[api.Near] != 0 && got[api.Near] != got[api.Up] && got[api.Near] != got[api.Down] {
			t.Fatal(n, num, den, got)
		}
	}
}

// P3.3
func TestSplit(t *testing.T) {
	many := slices.Repeat([]int{1}, 1024)
	for _, x := range []struct {
		total   int
		weights []int
		want    []int
		e       api.Errno
	}{
		{100, []int{1, 1, 1}, []int{34, 33, 33}, api.OK}, {10, []int{1, 2, 4}, []int{1, 3, 6}, api.OK}, {0, []int{1, 2}, []int{0, 0}, api.OK}, {1, []int{0, 5, 0}, []int{0, 1, 0}, api.OK}, {5, []int{7}, []int{5}, api.OK},
		{3, []int{1, 2, 3, 0}, []int{1, 1, 1, 0}, api.OK}, {1, []int{1, 2, 2}, []int{0, 1, 0}, api.OK},
		{most, []int{most}, []int{most}, api.OK}, {most, []int{most - 1, 1}, []int{most - 1, 1}, api.OK}, {most - 1, []int{most / 2, most / 2}, []int{most / 2, most/2 - 1}, api.OK}, {1023, many, append(slices.Repeat([]int{1}, 1023), 0), api.OK},
		{-1, nil, nil, api.ErrMoney}, {most + 1, append(many, -1), nil, api.ErrMoney}, {1, append(many, -1), nil, api.ErrLimit}, {1, nil, nil, api.ErrArg}, {0, []int{0, 0}, nil, api.ErrArg}, {1, []int{1, -1}, nil, api.ErrArg}, {1, []int{-1, 5}, nil, api.ErrArg}, {1, []int{most, 1}, nil, api.ErrArg}, {1, []int{math.MaxInt, math.MaxInt}, nil, api.ErrArg}, {1, []int{math.MinInt, 1}, nil, api.ErrArg},
	} {
		if l, e := Split(x.total, x.weights); !slices.Equal(l, x.want) || e != x.e {
			t.Error(x.total, x.weights, l, int(e))
		}
	}
}

// P3.6
func TestSplitLosesNothing(t *testing.T) {
	r := rand.New(rand.NewSource(2))
	for range 3000 {
		w := make([]int, 1+r.Intn(8))
		for i := range w {
			w[i] = r.Intn(7)
			if r.Intn(9) == 0 {
				w[i] = r.Intn(most / 8)
			}
		}
		sum := 0
		for _, n := range w {
			sum += n
		}
		if sum == 0 {
			continue
		}
		total := r.Intn(30)
		if r.Intn(2) == 0 {
			total = r.Intn(most + 1)
		}
		l, e := Split(total, w)
		left := total
		for i, n := range l {
			left -= n
			// |n * sum - total * w| < sum
			d := new(big.Int).Mul(big.NewInt(int64(n)), big.NewInt(int64(sum)))
			d.Sub(d, new(big.Int).Mul(big.NewInt(int64(total)), big.NewInt(int64(w[i]))))
			if d.CmpAbs(big.NewInt(int64(sum))) >= 0 || w[i] == 0 && n != 0 {
				t.Fatal(total, w, l)
			}
			for j := range i {
				if w[j] == w[i] && l[j] < n || w[j] > w[i] && l[j] < n || w[j] < w[i] && l[j] > n {
					t.Fatal(total, w, l)
				}
			}
		}
		if left != 0 || e != api.OK || len(l) != len(w) {
			t.Fatal(total, w, l, int(e))
		}
	}
}

// P3.4
func TestShow(t *testing.T) {
	for n, want := range map[int]string{0: "0.00", 5: "0.05", -5: "-0.05", 100: "1.00", -120: "-1.20", 99: "0.99", 123456: "1234.56", math.MaxInt: "92233720368547758.07", math.MinInt: "-92233720368547758.08"} {
		if s := Show(n); s != want {
			t.Error(n, s)
		}
	}
}

// P3.4
func TestParse(t *testing.T) {
	for _, x := range []struct {
		s string
		n int
		e api.Errno
	}{
		{"0.00", 0, api.OK}, {"0.05", 5, api.OK}, {"-0.05", -5, api.OK}, {"10.10", 1010, api.OK}, {"-1.20", -120, api.OK}, {Show(most), most, api.OK}, {Show(-most), -most, api.OK},
		{Show(most + 1), 0, api.ErrMoney}, {Show(-most - 1), 0, api.ErrMoney}, {Show(math.MinInt), 0, api.ErrMoney}, {strings.Repeat("9", 100) + ".00", 0, api.ErrMoney}, {"184467440737095516.16", 0, api.ErrMoney},
		{"", 0, api.ErrForm}, {"1", 0, api.ErrForm}, {"1.", 0, api.ErrForm}, {"1.0", 0, api.ErrForm}, {"1.000", 0, api.ErrForm}, {".00", 0, api.ErrForm}, {"-.05", 0, api.ErrForm}, {"01.00", 0, api.ErrForm}, {"00.00", 0, api.ErrForm}, {"-0.00", 0, api.ErrForm}, {"--1.00", 0, api.ErrForm}, {"+1.00", 0, api.ErrForm}, {"1.-1", 0, api.ErrForm}, {"1.0x", 0, api.ErrForm}, {"x.00", 0, api.ErrForm}, {"1,00", 0, api.ErrForm}, {"1.00 ", 0, api.ErrForm}, {" 1.00", 0, api.ErrForm}, {"1.2.34", 0, api.ErrForm}, {"1/.00", 0, api.ErrForm}, {"1:.00", 0, api.ErrForm}, {strings.Repeat("9", 100) + ".0x", 0, api.ErrForm},
	} {
		if n, e := Parse(x.s); n != x.n || e != x.e {
			t.Error(x, n, int(e))
		}
	}
}

// P3.7
func TestShowInverse(t *testing.T) {
	r := rand.New(rand.NewSource(3))
	for range 5000 {
		n := randomInt(r) >> 13
		if m, e := Parse(Show(n)); m != n || e != api.OK {
			t.Error(n, m, int(e))
		}
		b := make([]byte, r.Intn(6))
		for i := range b {
			b[i] = "-.0012"[r.Intn(6)]
		}
		if m, e := Parse(string(b)); e == api.OK && Show(m) != string(b) {
			t.Error(string(b), m)
		}
	}
}
