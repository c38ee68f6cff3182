package bigend

import (
	"bytes"
	"math/rand"
	"slices"
	"strings"
	"testing"

	"analemma/api"
)

const (
	least    = -1 << 63
	greatest = 1<<63 - 1
)

func TestP41_1Put(t *testing.T) {
	for _, x := range []struct {
		size int
		n    int64
		want []byte
	}{
		{4, 258, []byte{9, 0, 0, 1, 2}}, {1, -1, []byte{9, 255}}, {8, -2, []byte{9, 255, 255, 255, 255, 255, 255, 255, 254}}, {1, 127, []byte{9, 127}}, {1, -128, []byte{9, 128}},
		{4, 1<<31 - 1, []byte{9, 127, 255, 255, 255}}, {4, -1 << 31, []byte{9, 128, 0, 0, 0}}, {8, least, []byte{9, 128, 0, 0, 0, 0, 0, 0, 0}}, {8, 0x0102030405060708, []byte{9, 1, 2, 3, 4, 5, 6, 7, 8}},
	} {
		if b, e := Put([]byte{9}, x.size, x.n); !bytes.Equal(b, x.want) || e != api.OK {
			t.Error(x, b, e)
		}
	}
	for _, x := range []struct {
		size int
		n    int64
		of   api.Errno
	}{
		{1, 128, api.ErrRange}, {1, -129, api.ErrRange}, {4, 1 << 31, api.ErrRange}, {4, -1<<31 - 1, api.ErrRange}, {1, greatest, api.ErrRange}, {4, least, api.ErrRange}, {2, 0, api.ErrArg},
		{0, 0, api.ErrArg}, {-1, 1 << 62, api.ErrArg}, {3, 0, api.ErrArg}, {16, 0, api.ErrArg}, {1 << 40, 0, api.ErrArg},
	} {
		if b, e := Put([]byte{9}, x.size, x.n); b != nil || e != x.of {
			t.Error(x, b, e)
		}
	}
	// What lies behind the length of the argument stays.
	long := []byte{1, 2, 3, 4}
	b, _ := Put(long[:1], 1, 9)
	b[0] = 7
	if !slices.Equal(long, []byte{1, 2, 3, 4}) {
		t.Error(long)
	}
}

func TestP41_2Get(t *testing.T) {
	b := []byte{9, 0, 0, 1, 2, 255, 255, 255, 254}
	for _, x := range []struct {
		at, size int
		want     int64
		of       api.Errno
	}{
		{1, 4, 258, api.OK}, {1, 1, 0, api.OK}, {5, 4, -2, api.OK}, {5, 1, -1, api.OK}, {1, 8, 258<<32 + 0xfffffffe, api.OK}, {6, 4, 0, api.ErrData}, {2, 8, 0, api.ErrData}, {-1, 1, 0, api.ErrData},
		{9, 1, 0, api.ErrData}, {8, 1, -2, api.OK}, {greatest, 8, 0, api.ErrData}, {least, 8, 0, api.ErrData}, {greatest - 3, 4, 0, api.ErrData}, {0, 2, 0, api.ErrArg}, {-5, 0, 0, api.ErrArg}, {0, -1, 0, api.ErrArg},
	} {
		if n, e := Get(b, x.at, x.size); n != x.want || e != x.of {
			t.Error(x, n, e)
		}
	}
	if n, e := Get(nil, 0, 1); n != 0 || e != api.ErrData {
		t.Error(n, e)
	}
	if n, e := Get(b[:2:3], 2, 1); n != 0 || e != api.ErrData {
		t.Error(n, e)
	}
}

func TestP41_3Bytes(t *testing.T) {
	b := []byte{1, 2, 3}
	for _, x := range []struct {
		at, n int
		want  []byte
		of    api.Errno
	}{
		{1, 2, []byte{2, 3}, api.OK}, {3, 0, nil, api.OK}, {0, 3, []byte{1, 2, 3}, api.OK}, {0, 0, nil, api.OK}, {2, 2, nil, api.ErrData}, {4, 0, nil, api.ErrData}, {0, -1, nil, api.ErrArg}, {-1, 0, nil, api.ErrData},
		{-1, 1, nil, api.ErrData}, {1, greatest, nil, api.ErrData}, {greatest, 1, nil, api.ErrData}, {9, least, nil, api.ErrArg}, {0, 4, nil, api.ErrData}, {least, greatest, nil, api.ErrData},
	} {
		if got, e := Bytes(b, x.at, x.n); !bytes.Equal(got, x.want) || e != x.of {
			t.Error(x, got, e)
		}
	}
	got, _ := Bytes(b, 0, 2)
	got[0] = 9
	if _ = append(got, 9); !slices.Equal(b, []byte{1, 2, 3}) {
		t.Error(b)
	}
}

func TestP41_4Back(t *testing.T) {
	r := rand.New(rand.NewSource(41))
	for range 20000 {
		size := []int{1, 4, 8}[r.Intn(3)]
		n := int64(r.Uint64()) >> (64 - 8*size) >> r.Intn(8)
		front := make([]byte, r.Intn(5))
		b, e := Put(front, size, n)
		if len(b) != len(front)+size || e != api.OK {
			t.Fatal(n, b, e)
		}
		if got, e := Get(b, len(front), size); got != n || e != api.OK {
			t.Fatal(n, b, got, e)
		}
		if size == 8 {
			high, _ := Put(nil, 4, n>>32)
			both, _ := Put(high, 4, int64(int32(n)))
			if !bytes.Equal(both, b[len(front):]) {
				t.Fatal(n, both)
			}
		}
	}
}

func TestP41_5Order(t *testing.T) {
	r := rand.New(rand.NewSource(415))
	for range 20000 {
		size := []int{1, 4, 8}[r.Intn(3)]
		m, n := int64(r.Uint64())>>(64-8*size), int64(r.Uint64())>>(64-8*size)
		if (m < 0) != (n < 0) {
			continue
		}
		a, _ := Put(nil, size, m)
		b, _ := Put(nil, size, n)
		if strings.Compare(string(a), string(b)) < 0 != (m < n) {
			t.Fatal(m, n, a, b)
		}
	}
}
