package prefint_test

import (
	"bytes"
	"math"
	"testing"

	"footman/api"
	"footman/prefint"
)

var wrongBits = []int{math.MinInt, -256, -8, -1, 0, 9, 16, 64, 257, math.MaxInt}

var wrongNumbers = []int{math.MinInt, -1 << 32, -1, api.MaxInt + 1, api.MaxInt + 2, 1 << 32, 1 << 40, math.MaxInt}

// edges tells the numbers at which the bytes of a number change their count, and those beside them.
func edges(bits int) []int {
	ones := 1<<bits - 1
	l := []int{0, 1, api.MaxInt - 1, api.MaxInt}
	for _, middle := range []int{ones, ones + 1<<7, ones + 1<<14, ones + 1<<21} {
		l = append(l, middle-2, middle-1, middle, middle+1)
	}
	for shift := range 28 {
		l = append(l, 1<<shift, 1<<shift-1, 1<<shift+ones)
	}
	fit := l[:0]
	for _, n := range l {
		if n >= 0 && n <= api.MaxInt {
			fit = append(fit, n)
		}
	}
	return fit
}

// groups tells what stands behind a first byte of ones, by division.
func groups(left int) []byte {
	var b []byte
	for left >= 128 {
		b = append(b, byte(left%128+128))
		left /= 128
	}
	return append(b, byte(left))
}

func TestP1_1PutTellsBytes(t *testing.T) {
	for _, x := range []struct {
		first   byte
		bits, n int
		want    string
	}{
		{0, 5, 10, "\x0a"},
		{0, 5, 1337, "\x1f\x9a\x0a"},
		{0, 8, 42, "\x2a"},
		{0, 1, 0, "\x00"},
		{0, 1, 1, "\x01\x00"},
		{0, 1, 2, "\x01\x01"},
		{0, 4, 0, "\x00"},
		{0, 4, 14, "\x0e"},
		{0, 4, 15, "\x0f\x00"},
		{0, 7, 126, "\x7e"},
		{0, 7, 127, "\x7f\x00"},
		{0, 8, 254, "\xfe"},
		{0, 8, 255, "\xff\x00"},
		{0, 8, 255 + 127, "\xff\x7f"},
		{0, 8, 255 + 128, "\xff\x80\x01"},
		{0, 8, 255 + 16383, "\xff\xff\x7f"},
		{0, 8, 255 + 16384, "\xff\x80\x80\x01"},
		{0, 8, 255 + 2097151, "\xff\xff\xff\x7f"},
		{0, 8, 255 + 2097152, "\xff\x80\x80\x80\x01"},
		{0, 1, api.MaxInt, "\x01\xfe\xff\xff\x7f"},
		{0, 5, api.MaxInt, "\x1f\xe0\xff\xff\x7f"},
		{0, 8, api.MaxInt, "\xff\x80\xfe\xff\x7f"},
		{0xe0, 5, 10, "\xea"},
		{0xff, 5, 10, "\xea"},
		{0xff, 5, 1337, "\xff\x9a\x0a"},
		{0xa0, 5, 31, "\xbf\x00"},
		{0xff, 8, 42, "\x2a"},
		{0xff, 1, 0, "\xfe"},
	} {
		b, e := prefint.Put(x.first, x.bits, x.n)
		if string(b) != x.want || e != api.OK {
			t.Errorf("Put(%#x, %d, %d) = %x, %d, want %x", x.first, x.bits, x.n, b, e, x.want)
		}
		if size := prefint.Size(x.bits, x.n); size != len(x.want) {
			t.Errorf("Size(%d, %d) = %d, want %d", x.bits, x.n, size, len(x.want))
		}
	}
}

func TestP1_1PutAtEdges(t *testing.T) {
	for bits := 1; bits <= 8; bits++ {
		ones := 1<<bits - 1
		for _, first := range []byte{0, 1, 0x55, 0x80, 0xaa, 0xff} {
			other := int(first) / (ones + 1) * (ones + 1)
			for _, n := range edges(bits) {
				want := []byte{byte(other + n)}
				if n >= ones {
					want = append([]byte{byte(other + ones)}, groups(n-ones)...)
				}
				b, e := prefint.Put(first, bits, n)
				if !bytes.Equal(b, want) || e != api.OK {
					t.Errorf("Put(%#x, %d, %d) = %x, %d, want %x", first, bits, n, b, e, want)
				}
				if size := prefint.Size(bits, n); size != len(want) {
					t.Errorf("Size(%d, %d) = %d, want %d", bits, n, size, len(want))
				}
			}
		}
	}
}

func TestP1_1WrongBits(t *testing.T) {
	for _, bits := range wrongBits {
		for _, n := range append([]int{0, 5, 127, 1337, api.MaxInt}, wrongNumbers...) {
			if b, e := prefint.Put(0xff, bits, n); len(b) != 0 || e != api.ErrArg {
				t.Errorf("Put of %d bits, %d: %x, %d, want ErrArg", bits, n, b, e)
			}
			if size := prefint.Size(bits, n); size != 0 {
				t.Errorf("Size(%d, %d) = %d, want 0", bits, n, size)
			}
		}
	}
}

func TestP1_1WrongNumbers(t *testing.T) {
	for bits := 1; bits <= 8; bits++ {
		for _, n := range wrongNumbers {
			if b, e := prefint.Put(0xff, bits, n); len(b) != 0 || e != api.ErrRange {
				t.Errorf("Put of %d bits, %d: %x, %d, want ErrRange", bits, n, b, e)
			}
			if size := prefint.Size(bits, n); size != 0 {
				t.Errorf("Size(%d, %d) = %d, want 0", bits, n, size)
			}
		}
	}
}

func TestP1_1Rest(t *testing.T) {
	for _, bits := range append([]int{1, 2, 3, 4, 5, 6, 7, 8}, wrongBits...) {
		count := bits
		if bits < 1 {
			count = 1
		} else if bits > 8 {
			count = 8
		}
		for first := range 256 {
			want := first >> count << count
			if got := prefint.Rest(byte(first), bits); int(got) != want {
				t.Errorf("Rest(%#x, %d) = %#x, want %#x", first, bits, got, want)
			}
		}
	}
}

func TestP1_1PutAnswersNewMemory(t *testing.T) {
	for _, n := range []int{3, 31, 1337, api.MaxInt} {
		b, _ := prefint.Put(0, 5, n)
		kept := bytes.Clone(b)
		other, _ := prefint.Put(0, 5, n)
		for i := range other[:cap(other)] {
			other[:cap(other)][i] ^= 0xff
		}
		if !bytes.Equal(b, kept) {
			t.Errorf("two answers for %d share their memory", n)
		}
	}
}

func TestP1_2GetReads(t *testing.T) {
	for _, x := range []struct {
		b       string
		bits    int
		n, size int
	}{
		{"\x0a", 5, 10, 1},
		{"\xea", 5, 10, 1},
		{"\x1f\x9a\x0a", 5, 1337, 3},
		{"\xff\x9a\x0a", 5, 1337, 3},
		{"\x2a", 8, 42, 1},
		{"\x00", 1, 0, 1},
		{"\xfe", 1, 0, 1},
		{"\x01\x00", 1, 1, 2},
		{"\x7e\xff", 7, 126, 1},
		{"\x7f\x00\xff", 7, 127, 2},
		{"\xfe", 8, 254, 1},
		{"\xff\x00", 8, 255, 2},
		{"\xff\x80\x01", 8, 383, 3},
		{"\x01\xfe\xff\xff\x7f", 1, api.MaxInt, 5},
		{"\xff\x80\xfe\xff\x7f", 8, api.MaxInt, 5},
	} {
		n, size, e := prefint.Get([]byte(x.b), x.bits)
		if n != x.n || size != x.size || e != api.OK {
			t.Errorf("Get(%x, %d) = %d, %d, %d, want %d, %d", x.b, x.bits, n, size, e, x.n, x.size)
		}
	}
}

func TestP1_2MoreGroupsThanNeeded(t *testing.T) {
	for bits := 1; bits <= 8; bits++ {
		ones := 1<<bits - 1
		for _, left := range []int{0, 1, 5, 127, 128, 16384, api.MaxInt - ones} {
			b := append([]byte{byte(ones)}, groups(left)...)
			for len(b) < 6 {
				b[len(b)-1] |= 0x80
				b = append(b, 0)
				n, size, e := prefint.Get(append(b, 0xff), bits)
				if n != ones+left || size != len(b) || e != api.OK {
					t.Errorf("Get(%x, %d) = %d, %d, %d, want %d", b, bits, n, size, e, ones+left)
				}
			}
		}
	}
}

func TestP1_2Wrong(t *testing.T) {
	for _, x := range []struct {
		b    string
		bits int
		want api.Errno
	}{
		{"", 1, api.ErrCut},
		{"", 8, api.ErrCut},
		{"\x1f", 5, api.ErrCut},
		{"\xff", 8, api.ErrCut},
		{"\x1f\x80", 5, api.ErrCut},
		{"\x1f\x80\x80", 5, api.ErrCut},
		{"\x1f\x80\x80\x80", 5, api.ErrCut},
		{"\x1f\x80\x80\x80\x80", 5, api.ErrCut},
		// Above MaxInt already, and cut off: ErrCut is named first.
		{"\x1f\xff\xff\xff\xff", 5, api.ErrCut},
		// The fifth byte has 128, whatever stands behind.
		{"\x1f\x80\x80\x80\x80\x80", 5, api.ErrRange},
		{"\x1f\x80\x80\x80\x80\x80\x00", 5, api.ErrRange},
		{"\x1f\x80\x80\x80\x80\x80\x80", 5, api.ErrRange},
		{"\x1f\xff\xff\xff\xff\xff\x00", 5, api.ErrRange},
		{"\x1f\xff\xff\xff\xff\xff\xff\xff\xff\xff\xff\xff\x7f", 5, api.ErrRange},
		// Above MaxInt, within four groups and with a fifth.
		{"\x1f\xe1\xff\xff\x7f", 5, api.ErrRange},
		{"\x1f\xff\xff\xff\x7f", 5, api.ErrRange},
		{"\x01\xff\xff\xff\x7f", 1, api.ErrRange},
		{"\xff\x81\xfe\xff\x7f", 8, api.ErrRange},
		{"\xff\x81\xfe\xff\xff\x00", 8, api.ErrRange},
		{"\x1f\x80\x80\x80\x80\x01", 5, api.ErrRange},
		{"\x1f\x80\x80\x80\x80\x10", 5, api.ErrRange},
		{"\x1f\xff\xff\xff\xff\x7f", 5, api.ErrRange},
		{"\xff\x80\xff\xff\xff\x7f", 8, api.ErrRange},
	} {
		n, size, e := prefint.Get([]byte(x.b), x.bits)
		if n != 0 || size != 0 || e != x.want {
			t.Errorf("Get(%x, %d) = %d, %d, %d, want error %d", x.b, x.bits, n, size, e, x.want)
		}
	}
	if _, _, e := prefint.Get(nil, 5); e != api.ErrCut {
		t.Errorf("Get(nil, 5): %d, want ErrCut", e)
	}
}

func TestP1_2WrongBits(t *testing.T) {
	for _, bits := range wrongBits {
		for _, b := range []string{"", "\x00", "\x0a", "\xff", "\xff\x00", "\xff\x80\x80\x80\x80\x80\x80"} {
			if n, size, e := prefint.Get([]byte(b), bits); n != 0 || size != 0 || e != api.ErrArg {
				t.Errorf("Get(%x, %d) = %d, %d, %d, want ErrArg", b, bits, n, size, e)
			}
		}
	}
}

// model reads a number as the chapter tells it: its bytes are found first, and what they tell is added up behind that.
func model(b []byte, bits int) (int, int, api.Errno) {
	if len(b) == 0 {
		return 0, 0, api.ErrCut
	}
	ones := 1<<bits - 1
	if n := int(b[0]) % (ones + 1); n < ones {
		return n, 1, api.OK
	}
	last := 1
	for last < len(b) && b[last] >= 128 {
		last++
	}
	if last > 5 {
		return 0, 0, api.ErrRange
	}
	if last == len(b) {
		return 0, 0, api.ErrCut
	}
	n, place := ones, 1
	for _, c := range b[1 : last+1] {
		n += int(c%128) * place
		place *= 128
	}
	if n > api.MaxInt {
		return 0, 0, api.ErrRange
	}
	return n, last + 1, api.OK
}

// each goes over all lists of at most so many of these bytes.
func each(all []byte, most int, do func([]byte)) {
	var grow func([]byte)
	grow = func(b []byte) {
		do(b)
		if len(b) == most {
			return
		}
		for _, c := range all {
			grow(append(b[:len(b):len(b)], c))
		}
	}
	grow(nil)
}

func TestP1_2GetIsAsTheModel(t *testing.T) {
	each([]byte{0x00, 0x01, 0x7f, 0x80, 0x81, 0xff}, 6, func(tail []byte) {
		for bits := 1; bits <= 8; bits++ {
			for _, first := range []int{0xff, 1<<bits - 1, 1<<bits - 2} {
				b := append([]byte{byte(first)}, tail...)
				kept := bytes.Clone(b)
				n, size, e := prefint.Get(b, bits)
				wantN, wantSize, wantE := model(b, bits)
				if n != wantN || size != wantSize || e != wantE {
					t.Fatalf("Get(%x, %d) = %d, %d, %d, want %d, %d, %d", b, bits, n, size, e, wantN, wantSize, wantE)
				}
				if !bytes.Equal(b, kept) {
					t.Fatalf("Get(%x, %d) changed its argument", kept, bits)
				}
			}
		}
	})
}

func TestP1_3WhatIsPutIsGot(t *testing.T) {
	tails := []string{"", "\x00", "\x7f", "\x80", "\xff", "\xff\xff\xff\xff\xff\xff\xff\xff", "\x80\x80\x80\x80\x80\x80\x01"}
	for bits := 1; bits <= 8; bits++ {
		l := edges(bits)
		for n := 0; n < 20000; n++ {
			l = append(l, n)
		}
		for n := 0; n <= api.MaxInt; n += 65521 {
			l = append(l, n)
		}
		for _, n := range l {
			b, e := prefint.Put(0xa5, bits, n)
			if e != api.OK {
				t.Fatalf("Put of %d bits, %d: %d", bits, n, e)
			}
			for _, tail := range tails {
				got, size, e := prefint.Get(append(b[:len(b):len(b)], tail...), bits)
				if got != n || size != len(b) || e != api.OK {
					t.Fatalf("%d bits, %d, and %x behind: %d, %d, %d", bits, n, tail, got, size, e)
				}
			}
			if prefint.Rest(b[0], bits) != prefint.Rest(0xa5, bits) {
				t.Fatalf("%d bits, %d: the other bits are %#x", bits, n, b[0])
			}
		}
	}
}

func TestP1_3AByteFewerIsCutOff(t *testing.T) {
	for bits := 1; bits <= 8; bits++ {
		for _, n := range edges(bits) {
			b, _ := prefint.Put(0xff, bits, n)
			for most := range len(b) {
				if got, size, e := prefint.Get(b[:most], bits); got != 0 || size != 0 || e != api.ErrCut {
					t.Fatalf("%d bits, %d, cut off behind %d bytes: %d, %d, %d, want ErrCut", bits, n, most, got, size, e)
				}
			}
		}
	}
}
