package checked

import (
	"math"
	"math/big"
	"math/rand"
	"testing"
)

const (
	least    = math.MinInt64
	greatest = math.MaxInt64
)

// numbers are those near which something happens, and some others.
func numbers() []int64 {
	l := []int64{0, 1, -1, 2, -2, 3, -3, 7, -7, 10, 1 << 31, 1 << 32, -1 << 31, -1 << 32, 3037000499, 3037000500, -3037000500, 1 << 62, -1 << 62, 1<<62 - 1, greatest, greatest - 1, greatest / 2, greatest/2 + 1, least, least + 1, least / 2, least/2 - 1}
	r := rand.New(rand.NewSource(3))
	for range 40 {
		l = append(l, int64(r.Uint64())>>r.Intn(64))
	}
	return l
}

func same(t *testing.T, what string, a, b int64, want *big.Int, got int64, fits bool) {
	t.Helper()
	if want != nil && want.IsInt64() {
		if got != want.Int64() || !fits {
			t.Errorf("%s(%d, %d) is %d, %v, not %v", what, a, b, got, fits, want)
		}
	} else if got != 0 || fits {
		t.Errorf("%s(%d, %d) is %d, %v, and does not fit", what, a, b, got, fits)
	}
}

// floor returns the quotient, rounded down, and the remainder.
func floor(a, b *big.Int) (*big.Int, *big.Int) {
	q, r := new(big.Int).QuoRem(a, b, new(big.Int))
	if r.Sign() != 0 && r.Sign() != b.Sign() {
		q.Sub(q, big.NewInt(1))
		r.Add(r, b)
	}
	return q, r
}

func TestP3_1AddSubMul(t *testing.T) {
	for _, a := range numbers() {
		for _, b := range numbers() {
			x, y := big.NewInt(a), big.NewInt(b)
			got, ok := Add(a, b)
			same(t, "Add", a, b, new(big.Int).Add(x, y), got, ok)
			got, ok = Sub(a, b)
			same(t, "Sub", a, b, new(big.Int).Sub(x, y), got, ok)
			got, ok = Mul(a, b)
			same(t, "Mul", a, b, new(big.Int).Mul(x, y), got, ok)
		}
	}
	if n, ok := Mul(least, -1); n != 0 || ok {
		t.Error(n, ok)
	}
	if n, ok := Mul(-1, least); n != 0 || ok {
		t.Error(n, ok)
	}
}

func TestP3_2DivMod(t *testing.T) {
	for _, a := range numbers() {
		for _, b := range numbers() {
			var q, r *big.Int
			if b != 0 {
				q, r = floor(big.NewInt(a), big.NewInt(b))
			}
			got, ok := Div(a, b)
			same(t, "Div", a, b, q, got, ok)
			got, ok = Mod(a, b)
			same(t, "Mod", a, b, r, got, ok)
		}
	}
	for _, x := range []struct{ a, b, q, r int64 }{{7, 2, 3, 1}, {-7, 2, -4, 1}, {7, -2, -4, -1}, {-7, -2, 3, -1}} {
		q, ok := Div(x.a, x.b)
		r, fine := Mod(x.a, x.b)
		if q != x.q || r != x.r || !ok || !fine {
			t.Error(x, q, r)
		}
	}
	if n, ok := Mod(least, -1); n != 0 || !ok {
		t.Error(n, ok)
	}
}

func TestP3_3Sum(t *testing.T) {
	for _, x := range []struct {
		l    []int64
		sum  int64
		fits bool
	}{
		{nil, 0, true}, {[]int64{}, 0, true}, {[]int64{5}, 5, true}, {[]int64{greatest, 1, -1}, 0, false},
		{[]int64{greatest, -1, 1}, greatest, true}, {[]int64{least, -1, 1}, 0, false}, {[]int64{1, 2, 3, -10}, -4, true},
		{[]int64{greatest, least, least}, 0, false}, {[]int64{least, greatest, 1}, 0, true}, {[]int64{1, greatest}, 0, false},
	} {
		if n, ok := Sum(x.l); n != x.sum || ok != x.fits {
			t.Error(x, n, ok)
		}
	}
}

func TestP3_4Back(t *testing.T) {
	for _, a := range numbers() {
		for _, b := range numbers() {
			if sum, ok := Add(a, b); ok {
				x, fine := Sub(sum, a)
				y, good := Sub(sum, b)
				if x != b || y != a || !fine || !good {
					t.Error("sum", a, b)
				}
			}
			if q, ok := Div(a, b); ok {
				r, _ := Mod(a, b)
				product, fine := Mul(q, b)
				if !fine {
					// q b can lie one step beyond the end, where the remainder leads back.
					product = q * b
				}
				if product+r != a {
					t.Error("quotient", a, b, q, r)
				}
			}
		}
	}
}

func TestP3_5JustThese(t *testing.T) {
	for _, a := range numbers() {
		for _, b := range numbers() {
			if _, ok := Add(a, b); !ok && (a < 0) != (b < 0) {
				t.Error("Add", a, b)
			}
			if _, ok := Sub(a, b); !ok && (a < 0) == (b < 0) {
				t.Error("Sub", a, b)
			}
			if _, ok := Div(a, b); !ok && b != 0 && (a != least || b != -1) {
				t.Error("Div", a, b)
			}
		}
	}
}
