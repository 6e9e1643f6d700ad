package plate

import (
	"math"
	"math/rand"
	"slices"
	"strings"
	"testing"

	"tollway/api"
)

// P10.1, P10.7
func TestNormal(t *testing.T) {
	for s, want := range map[string]string{"ab-1 2c": "AB12C", "AB": "AB", "zz99": "ZZ99", " a-  b ": "AB", "0123456789": "0123456789", "ABCDEFGHIJ": "ABCDEFGHIJ", "A-b-C-d-E-f-G-h-I-j": "ABCDEFGHIJ", "Az": "AZ", "00": "00"} {
		if n, e := Normal(s); n != want || e != api.OK {
			t.Errorf("%q: %q %d", s, n, int(e))
		}
		if n, e := Normal(want); n != want || e != api.OK {
			t.Errorf("%q: %q %d", want, n, int(e))
		}
	}
	for _, s := range []string{"", "a", "A_1", "abcdefghijk", " -", "a-", "a\tb", "ab\x00", "a\xffb", "äb", "AB.", "[[", "@@", "``", "{{", "//", "::", "ＡＢ", "\u212a1"} {
		if n, e := Normal(s); n != "" || e != api.ErrPlate {
			t.Errorf("%q: %q %d", s, n, int(e))
		}
	}
}

const pairs = "0O 0D 0Q 1I 2Z 5S 8B 6G UV"

// P10.2
func TestLike(t *testing.T) {
	for a := range 256 {
		for b := range 256 {
			x, y := string([]byte{byte(a)}), string([]byte{byte(b)})
			want := a > 32 && b > 32 && (strings.Contains(pairs, x+y) || strings.Contains(pairs, y+x))
			if Like(byte(a), byte(b)) != want {
				t.Error(x, y)
			}
		}
	}
}

// slow is the definition of the distance.
func slow(a, b string) int {
	if len(a) == 0 || len(b) == 0 {
		return 3 * (len(a) + len(b))
	}
	change := 3
	if a[0] == b[0] {
		change = 0
	} else if strings.Contains(pairs, a[:1]+b[:1]) || strings.Contains(pairs, b[:1]+a[:1]) {
		change = 1
	}
	return min(change+slow(a[1:], b[1:]), 3+slow(a[1:], b), 3+slow(a, b[1:]))
}

// P10.3, P10.6
func TestDistance(t *testing.T) {
	long := strings.Repeat("A", 32)
	for _, x := range []struct {
		a, b string
		want int
	}{
		{"B8O0", "8B00", 3}, {"AB", "AXB", 3}, {"AB", "BA", 6}, {"", "", 0}, {"", "AB", 6}, {"AB12", "A812", 1}, {"AB", "AC", 3}, {"O", "D", 3}, {"OD", "DO", 6}, {"00", "OD", 2}, {"8", "8", 0}, {"\xff", "\xfe", 3},
		{long + "X", long + "YZ", 0}, {long + "X", long, 0}, {long[1:] + "X", long, 3}, {"X" + long, long, 3}, {strings.Repeat("0", 40), strings.Repeat("O", 32), 32}, {long, "", 96},
	} {
		if n := Distance(x.a, x.b); n != x.want {
			t.Error(x, n)
		}
		if n := Distance(x.b, x.a); n != x.want {
			t.Error("not symmetric", x, n)
		}
		if Same(x.a, x.b) != (x.want <= 2) {
			t.Error("Same", x)
		}
	}
	r := rand.New(rand.NewSource(1))
	for range 2000 {
		a, b := random(r, 6), random(r, 6)
		n := Distance(a, b)
		if n != slow(a, b) || n != Distance(b, a) || (n == 0) != (a == b) || n < 3*(len(a)-len(b)) || n < 3*(len(b)-len(a)) || Same(a, b) != (n <= 2) {
			t.Fatal(a, b, n, slow(a, b))
		}
	}
}

func random(r *rand.Rand, most int) string {
	b := make([]byte, r.Intn(most+1))
	for i := range b {
		b[i] = "0O8BA1IU"[r.Intn(8)]
	}
	return string(b)
}

// P10.4
func TestNear(t *testing.T) {
	l := []string{"AB1", "AB2", "ABI", "AB1"}
	for _, x := range []struct {
		l    []string
		s    string
		most int
		want string
	}{
		{l, "AB1", 3, "AB1 ABI AB2"}, {l, "AB1", 2, "AB1 ABI"}, {l, "AB1", 1, "AB1 ABI"}, {l, "AB1", 0, "AB1"}, {l, "AB1", -1, ""}, {l, "AB1", math.MinInt, ""}, {l, "AB1", math.MaxInt, "AB1 ABI AB2"}, {nil, "AB1", 3, ""}, {[]string{"Z", "Y", "X"}, "Q", 3, "X Y Z"}, {l, "", 9, "AB1 AB2 ABI"}, {l, "", 8, ""},
	} {
		if got := strings.Join(Near(x.l, x.s, x.most), " "); got != x.want {
			t.Error(x, got)
		}
	}
	a := strings.Repeat("A", 32)
	if got := Near([]string{a + "2", a + "1", a, a + "1"}, a+"3", 0); !slices.Equal(got, []string{a, a + "1", a + "2"}) {
		t.Error(got)
	}
}

// P10.5, P10.8
func TestVote(t *testing.T) {
	for _, x := range []struct {
		reads   []string
		weights []int
		want    string
		sum     int
	}{
		{[]string{"AB1", "ABI", "ABI"}, []int{900, 400, 400}, "AB1", 800}, {[]string{"ABI", "AB1"}, []int{500, 500}, "AB1", 500}, {[]string{"AB1", "AB1"}, []int{1, 2}, "AB1", 0}, {[]string{"B", "A"}, []int{0, 0}, "A", 0}, {[]string{"B"}, []int{-5}, "B", 0},
		{[]string{"B", "A"}, []int{2000, 1000}, "A", 3000}, {[]string{"B", "A"}, []int{1000, 999}, "B", 2997}, {[]string{"B", "A"}, []int{5, -7}, "B", 0}, {[]string{"B", "A"}, []int{math.MinInt, math.MaxInt}, "A", 0}, {[]string{"", "A"}, []int{1, 1}, "", 3},
		{nil, nil, "", 0}, {[]string{"A"}, nil, "", 0}, {nil, []int{1}, "", 0}, {[]string{"A", "B"}, []int{1}, "", 0}, {[]string{"A"}, []int{1, 2}, "", 0},
	} {
		if s, n := Vote(x.reads, x.weights); s != x.want || n != x.sum {
			t.Error(x, s, n)
		}
	}
	r := rand.New(rand.NewSource(2))
	for range 1000 {
		reads, weights := make([]string, 1+r.Intn(5)), make([]int, 0)
		for i := range reads {
			reads[i] = random(r, 3)
			weights = append(weights, r.Intn(1400)-200)
		}
		best, least := "", -1
		for _, s := range reads {
			sum := 0
			for i, x := range reads {
				sum += min(max(weights[i], 0), 1000) * slow(x, s)
			}
			if least < 0 || sum < least || sum == least && s < best {
				best, least = s, sum
			}
		}
		if s, n := Vote(reads, weights); s != best || n != least {
			t.Fatal(reads, weights, s, n, best, least)
		}
	}
	// More than half of the weight decides if all readings are equally far from each other.
	if s, _ := Vote([]string{"C", "A", "B"}, []int{501, 250, 250}); s != "C" {
		t.Error(s)
	}
}
