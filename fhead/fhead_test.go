package fhead_test

import (
	"bytes"
	"math"
	"slices"
	"strconv"
	"strings"
	"testing"

	"footman/api"
	"footman/fhead"
)

const (
	size       = 9
	mostLen    = 16777215
	mostStream = 2147483647
)

var rightLens = []int{0, 1, 8, 127, 128, 255, 256, 257, 16383, 16384, 16385, 65535, 65536, 65537, 0x010203, 0x800000, 0xfedcba, mostLen - 1, mostLen}

var wrongLens = []int{
	-1, -2, -255, -256, -65536, -mostLen, -mostLen - 1, math.MinInt32, -1 << 32, -1<<32 + 1, math.MinInt + 1, math.MinInt,
	mostLen + 1, mostLen + 2, 1<<24 + 256, 1 << 25, 1<<31 - 1, 1 << 31, 1 << 32, 1<<32 + 1, 1 << 40, 1 << 56, math.MaxInt - 1, math.MaxInt,
}

var rightStreams = []int{0, 1, 2, 3, 127, 128, 255, 256, 257, 65535, 65536, 65537, mostLen, mostLen + 1, mostLen + 2, 0x01020304, 0x7edcba98, 1 << 30, mostStream - 1, mostStream}

var wrongStreams = []int{
	-1, -2, -255, -256, -65536, -1 << 24, -mostStream, -mostStream - 1, -mostStream - 2, -1 << 32, -1<<32 + 1, math.MinInt + 1, math.MinInt,
	mostStream + 1, mostStream + 2, 1<<32 - 1, 1 << 32, 1<<32 + 1, 1<<32 + 5, 1 << 40, 1 << 62, math.MaxInt - 1, math.MaxInt,
}

// What stands behind a head: nothing, noughts, what is like a head itself, and much.
var tails = []string{"", "\x00", "\xff", "\x80", "\x00\x00\x08\x06\x01\x00\x00\x00\x00", strings.Repeat("\xff", 9), strings.Repeat("\x00", 100), strings.Repeat("payload", 3000)}

func show(h fhead.Head) string {
	return "{" + strconv.Itoa(h.Len) + " " + strconv.Itoa(int(h.Type)) + " " + strconv.Itoa(int(h.Flags)) + " " + strconv.Itoa(h.Stream) + "}"
}

// laid tells a number's bytes by division, the highest first.
func laid(n, count int) string {
	b := make([]byte, count)
	for i := count - 1; i >= 0; i-- {
		b[i] = byte(n % 256)
		n /= 256
	}
	return string(b)
}

// headBytes is what Put must tell of a head that may be.
func headBytes(h fhead.Head) string {
	return laid(h.Len, 3) + string([]byte{h.Type, h.Flags}) + laid(h.Stream, 4)
}

// told is what Get must tell of nine bytes, by products.
func told(b string) fhead.Head {
	return fhead.Head{
		Len:    65536*int(b[0]) + 256*int(b[1]) + int(b[2]),
		Type:   b[3],
		Flags:  b[4],
		Stream: 16777216*int(b[5]%128) + 65536*int(b[6]) + 256*int(b[7]) + int(b[8]),
	}
}

func wantRight(t *testing.T, h fhead.Head) {
	t.Helper()
	wantPut(t, h, headBytes(h))
}

func wantPut(t *testing.T, h fhead.Head, want string) {
	t.Helper()
	if e := fhead.Check(h); e != api.OK {
		t.Errorf("Check(%s) = %d", show(h), e)
	}
	if b, e := fhead.Put(h); string(b) != want || e != api.OK {
		t.Errorf("Put(%s) = %x, %d, want %x", show(h), b, e, want)
	}
}

func wantWrong(t *testing.T, h fhead.Head) {
	t.Helper()
	if e := fhead.Check(h); e != api.ErrRange {
		t.Errorf("Check(%s) = %d, want ErrRange", show(h), e)
	}
	if b, e := fhead.Put(h); len(b) != 0 || e != api.ErrRange {
		t.Errorf("Put(%s) = %x, %d, want nothing, and ErrRange", show(h), b, e)
	}
}

// wantGet also holds that the argument stays as it is, with what stands in its room behind.
func wantGet(t *testing.T, b string, want fhead.Head, wantE api.Errno) {
	t.Helper()
	came := []byte(b + "room behind")
	h, e := fhead.Get(came[:len(b)])
	if h != want || e != wantE {
		t.Errorf("Get(%.12x, of %d) = %s, %d, want %s, %d", b, len(b), show(h), e, show(want), wantE)
	}
	if string(came) != b+"room behind" {
		t.Errorf("Get changed %.12x, of %d, to %.23x", b, len(b), came)
	}
}

func wantHas(t *testing.T, flags, flag uint8, want bool) {
	t.Helper()
	if is := fhead.Has(fhead.Head{Flags: flags}, flag); is != want {
		t.Errorf("Has(flags %08b, %08b) = %t", flags, flag, is)
	}
}

func TestP8_1SizeIsNine(t *testing.T) {
	if fhead.Size != size {
		t.Errorf("Size = %d", fhead.Size)
	}
}

func TestP8_1PutTellsBytes(t *testing.T) {
	for _, x := range []struct {
		h    fhead.Head
		want string
	}{
		{fhead.Head{Len: 8, Type: 6, Flags: 1, Stream: 0}, "\x00\x00\x08\x06\x01\x00\x00\x00\x00"},
		{fhead.Head{}, "\x00\x00\x00\x00\x00\x00\x00\x00\x00"},
		{fhead.Head{Type: api.Settings, Flags: api.Ack}, "\x00\x00\x00\x04\x01\x00\x00\x00\x00"},
		{fhead.Head{Len: 13, Type: api.Headers, Flags: api.EndHeaders | api.EndStream, Stream: 1}, "\x00\x00\x0d\x01\x05\x00\x00\x00\x01"},
		{fhead.Head{Len: 4, Type: api.WindowUpdate, Stream: 3}, "\x00\x00\x04\x08\x00\x00\x00\x00\x03"},
		{fhead.Head{Len: api.MaxFrame, Type: api.Data, Flags: api.Padded, Stream: 257}, "\x00\x40\x00\x00\x08\x00\x00\x01\x01"},
		{fhead.Head{Len: api.MaxFrame + 1, Type: api.Continuation}, "\x00\x40\x01\x09\x00\x00\x00\x00\x00"},
		{fhead.Head{Len: 0x010203, Type: 4, Flags: 5, Stream: 0x06070809}, "\x01\x02\x03\x04\x05\x06\x07\x08\x09"},
		{fhead.Head{Len: 0xfffefd, Type: 0xfc, Flags: 0xfb, Stream: 0x7af9f8f7}, "\xff\xfe\xfd\xfc\xfb\x7a\xf9\xf8\xf7"},
		{fhead.Head{Len: mostLen, Type: 255, Flags: 255, Stream: api.MaxStream}, "\xff\xff\xff\xff\xff\x7f\xff\xff\xff"},
	} {
		wantPut(t, x.h, x.want)
	}
}

func TestP8_1LenAtItsEdges(t *testing.T) {
	for n, want := range map[int]string{
		0: "\x00\x00\x00", 1: "\x00\x00\x01", 255: "\x00\x00\xff", 256: "\x00\x01\x00", 257: "\x00\x01\x01",
		65535: "\x00\xff\xff", 65536: "\x01\x00\x00", 65537: "\x01\x00\x01",
		16777214: "\xff\xff\xfe", 16777215: "\xff\xff\xff",
	} {
		wantPut(t, fhead.Head{Len: n}, want+"\x00\x00\x00\x00\x00\x00")
	}
	for _, n := range []int{-1, 16777216} {
		wantWrong(t, fhead.Head{Len: n})
	}
}

func TestP8_1StreamAtItsEdges(t *testing.T) {
	for n, want := range map[int]string{
		0: "\x00\x00\x00\x00", 1: "\x00\x00\x00\x01", 255: "\x00\x00\x00\xff", 256: "\x00\x00\x01\x00", 257: "\x00\x00\x01\x01",
		65535: "\x00\x00\xff\xff", 65536: "\x00\x01\x00\x00", 65537: "\x00\x01\x00\x01",
		16777215: "\x00\xff\xff\xff", 16777216: "\x01\x00\x00\x00", 16777217: "\x01\x00\x00\x01",
		2147483646: "\x7f\xff\xff\xfe", 2147483647: "\x7f\xff\xff\xff",
	} {
		wantPut(t, fhead.Head{Stream: n}, "\x00\x00\x00\x00\x00"+want)
	}
	for _, n := range []int{-1, 2147483648} {
		wantWrong(t, fhead.Head{Stream: n})
	}
}

func TestP8_1EachRightLenWithEachRightStream(t *testing.T) {
	for _, length := range rightLens {
		for _, stream := range rightStreams {
			for _, c := range []uint8{0, 1, 0x55, 0x80, 0xff} {
				wantRight(t, fhead.Head{Len: length, Type: c, Flags: ^c, Stream: stream})
			}
		}
	}
	for shift := range 24 {
		wantRight(t, fhead.Head{Len: 1 << shift, Stream: 1})
		wantRight(t, fhead.Head{Len: mostLen - 1<<shift, Stream: 1})
	}
	for shift := range 31 {
		wantRight(t, fhead.Head{Len: 1, Stream: 1 << shift})
		wantRight(t, fhead.Head{Len: 1, Stream: mostStream - 1<<shift})
	}
}

func TestP8_1OneWrong(t *testing.T) {
	for _, length := range wrongLens {
		for _, stream := range rightStreams {
			wantWrong(t, fhead.Head{Len: length, Stream: stream})
			wantWrong(t, fhead.Head{Len: length, Type: 255, Flags: 255, Stream: stream})
		}
	}
	for _, stream := range wrongStreams {
		for _, length := range rightLens {
			wantWrong(t, fhead.Head{Len: length, Stream: stream})
			wantWrong(t, fhead.Head{Len: length, Type: 255, Flags: 255, Stream: stream})
		}
	}
}

func TestP8_1BothWrong(t *testing.T) {
	for _, length := range wrongLens {
		for _, stream := range wrongStreams {
			wantWrong(t, fhead.Head{Len: length, Stream: stream})
			wantWrong(t, fhead.Head{Len: length, Type: api.Settings, Flags: api.Ack, Stream: stream})
		}
	}
}

// A type and flags may be any, known or not, of a head that is right and of one that is wrong.
func TestP8_1AllTypesWithAllFlags(t *testing.T) {
	for kind := range 256 {
		for flags := range 256 {
			h := fhead.Head{Len: 0x010203, Type: uint8(kind), Flags: uint8(flags), Stream: 0x04050607}
			wantPut(t, h, "\x01\x02\x03"+string([]byte{byte(kind), byte(flags)})+"\x04\x05\x06\x07")
			h.Len, h.Stream = 0, mostStream+1
			wantWrong(t, h)
			h.Len, h.Stream = -1, 0
			wantWrong(t, h)
		}
	}
}

func TestP8_1PutAnswersNewMemory(t *testing.T) {
	for _, h := range []fhead.Head{{}, {Len: 8, Type: 6, Flags: 1}, {Len: mostLen, Type: 255, Flags: 255, Stream: mostStream}} {
		b, _ := fhead.Put(h)
		kept := bytes.Clone(b)
		other, _ := fhead.Put(h)
		other = other[:cap(other)]
		for i := range other {
			other[i] ^= 0xff
		}
		if !bytes.Equal(b, kept) {
			t.Errorf("two answers for %s share their memory", show(h))
		}
		wantRight(t, h)
	}
}

// Each byte on its own: what one of them tells, no other one does.
func TestP8_2EachByteOnItsOwn(t *testing.T) {
	for i, of := range []func(n int) fhead.Head{
		func(n int) fhead.Head { return fhead.Head{Len: n * 65536} },
		func(n int) fhead.Head { return fhead.Head{Len: n * 256} },
		func(n int) fhead.Head { return fhead.Head{Len: n} },
		func(n int) fhead.Head { return fhead.Head{Type: uint8(n)} },
		func(n int) fhead.Head { return fhead.Head{Flags: uint8(n)} },
		func(n int) fhead.Head { return fhead.Head{Stream: n % 128 * 16777216} },
		func(n int) fhead.Head { return fhead.Head{Stream: n * 65536} },
		func(n int) fhead.Head { return fhead.Head{Stream: n * 256} },
		func(n int) fhead.Head { return fhead.Head{Stream: n} },
	} {
		for n := range 256 {
			b := make([]byte, size)
			b[i] = byte(n)
			wantGet(t, string(b), of(n), api.OK)
			if i != 5 || n < 128 {
				wantPut(t, of(n), string(b))
			}
		}
	}
}

func TestP8_2GetReads(t *testing.T) {
	for _, x := range []struct {
		b    string
		want fhead.Head
	}{
		{"\x00\x00\x08\x06\x01\x00\x00\x00\x00", fhead.Head{Len: 8, Type: 6, Flags: 1}},
		{"\x00\x00\x00\x00\x00\x00\x00\x00\x00", fhead.Head{}},
		{"\x01\x02\x03\x04\x05\x06\x07\x08\x09", fhead.Head{Len: 0x010203, Type: 4, Flags: 5, Stream: 0x06070809}},
		{"\xff\xfe\xfd\xfc\xfb\x7a\xf9\xf8\xf7", fhead.Head{Len: 0xfffefd, Type: 0xfc, Flags: 0xfb, Stream: 0x7af9f8f7}},
		{"\x7f\x80\x81\x82\x83\x04\x85\x86\x87", fhead.Head{Len: 0x7f8081, Type: 0x82, Flags: 0x83, Stream: 0x04858687}},
		{"\xff\xff\xff\xff\xff\x7f\xff\xff\xff", fhead.Head{Len: mostLen, Type: 255, Flags: 255, Stream: mostStream}},
		{"\xff\xff\xff\xff\xff\xff\xff\xff\xff", fhead.Head{Len: mostLen, Type: 255, Flags: 255, Stream: mostStream}},
		// The clients' preface, of which the first nine bytes are read as any others.
		{"PRI * HTTP/2.0\r\n\r\nSM\r\n\r\n", fhead.Head{Len: 0x505249, Type: ' ', Flags: '*', Stream: 0x20485454}},
	} {
		wantGet(t, x.b, x.want, api.OK)
	}
}

func TestP8_2GetByHowManyBytesThereAre(t *testing.T) {
	if h, e := fhead.Get(nil); h != (fhead.Head{}) || e != api.ErrCut {
		t.Errorf("Get(nil) = %s, %d", show(h), e)
	}
	whole := "\x81\x82\x83\x84\x85\x06\x87\x88\x89" + strings.Repeat("\xaa", 300)
	for n := range len(whole) + 1 {
		if n < 9 {
			wantGet(t, whole[:n], fhead.Head{}, api.ErrCut)
		} else {
			wantGet(t, whole[:n], fhead.Head{Len: 0x818283, Type: 0x84, Flags: 0x85, Stream: 0x06878889}, api.OK)
		}
	}
	for n := range 9 {
		for _, c := range []string{"\x00", "\x01", "\x7f", "\x80", "\xff"} {
			wantGet(t, strings.Repeat(c, n), fhead.Head{}, api.ErrCut)
		}
	}
}

func TestP8_2TheHighestBitOfAStreamCountsForNothing(t *testing.T) {
	for _, stream := range rightStreams {
		b := []byte("\x00\x00\x05\x01\x04" + laid(stream, 4))
		want := fhead.Head{Len: 5, Type: 1, Flags: 4, Stream: stream}
		wantGet(t, string(b), want, api.OK)
		b[5] += 128
		wantGet(t, string(b), want, api.OK)
		wantGet(t, string(b)+"behind", want, api.OK)
		// What is put has it at 0, whatever it was that came.
		h, _ := fhead.Get(b)
		wantPut(t, h, "\x00\x00\x05\x01\x04"+laid(stream, 4))
	}
	for high := 128; high < 256; high++ {
		wantGet(t, string([]byte{0, 0, 0, 0, 0, byte(high), 0, 0, 0}), fhead.Head{Stream: (high - 128) << 24}, api.OK)
	}
	// No other byte's highest bit is left out.
	wantGet(t, strings.Repeat("\x80", 9), fhead.Head{Len: 0x808080, Type: 0x80, Flags: 0x80, Stream: 0x808080}, api.OK)
}

func TestP8_2GetIsAsTheModel(t *testing.T) {
	all := []byte{0x00, 0x01, 0x80, 0xff}
	b := make([]byte, size)
	var lay func(place int)
	lay = func(place int) {
		if place == size {
			if h, e := fhead.Get(b); h != told(string(b)) || e != api.OK {
				t.Fatalf("Get(%x) = %s, %d, want %s", b, show(h), e, show(told(string(b))))
			}
			return
		}
		for _, c := range all {
			b[place] = c
			lay(place + 1)
		}
	}
	lay(0)
}

func TestP8_2Has(t *testing.T) {
	for _, x := range []struct {
		flags, flag uint8
		want        bool
	}{
		// No flag: all of none are there.
		{0, 0, true}, {1, 0, true}, {0xff, 0, true},
		// One.
		{0, 1, false}, {1, 1, true}, {4, 1, false}, {0xfe, 1, false}, {0xff, 1, true}, {0x7f, 0x80, false}, {0x80, 0x80, true},
		{api.EndStream, api.EndStream, true}, {api.EndHeaders, api.EndStream, false}, {api.EndStream | api.Padded, api.Padded, true}, {api.EndStream | api.Padded, api.Prioritied, false},
		// Several, of which all are there, one lacks, and none is there.
		{5, 5, true}, {0x2d, 5, true}, {4, 5, false}, {1, 5, false}, {0x28, 5, false}, {0xfa, 5, false}, {5, 3, false},
		{api.EndStream | api.EndHeaders | api.Prioritied, api.EndHeaders | api.Prioritied, true},
		{api.EndStream | api.EndHeaders | api.Prioritied, api.EndHeaders | api.Padded, false},
		// All.
		{0xff, 0xff, true}, {0x7f, 0xff, false}, {0xfe, 0xff, false}, {0, 0xff, false},
	} {
		wantHas(t, x.flags, x.flag, x.want)
	}
}

func TestP8_2HasOfAllFlagsBitByBit(t *testing.T) {
	for flags := range 256 {
		for flag := range 256 {
			want := true
			for place := 1; place < 256; place *= 2 {
				if flag/place%2 == 1 && flags/place%2 == 0 {
					want = false
				}
			}
			wantHas(t, uint8(flags), uint8(flag), want)
		}
	}
}

// Has hangs on the flags alone, also of a head that Check refuses.
func TestP8_2HasAsksForTheFlagsAlone(t *testing.T) {
	for _, h := range []fhead.Head{
		{Len: 4, Type: 4, Flags: 1, Stream: 4},
		{Len: mostLen, Type: 255, Flags: 1, Stream: mostStream},
		{Len: -1, Type: 4, Flags: 1, Stream: -1},
		{Len: math.MaxInt, Flags: 1, Stream: math.MinInt},
	} {
		if !fhead.Has(h, 1) || fhead.Has(h, 4) || fhead.Has(h, 5) || !fhead.Has(h, 0) {
			t.Errorf("Has of %s: 1 %t, 4 %t, 5 %t, 0 %t", show(h), fhead.Has(h, 1), fhead.Has(h, 4), fhead.Has(h, 5), fhead.Has(h, 0))
		}
	}
}

// heads are right ones: each edge of a length with each of a stream's number, and types and flags that go on.
func heads() []fhead.Head {
	var l []fhead.Head
	for _, length := range rightLens {
		for _, stream := range rightStreams {
			l = append(l, fhead.Head{Len: length, Type: uint8(len(l)), Flags: uint8(len(l) * 7), Stream: stream})
		}
	}
	for n := 1; n < mostLen; n = n*3 + 1 {
		l = append(l, fhead.Head{Len: n, Type: uint8(n), Flags: uint8(n >> 8), Stream: mostStream - n})
	}
	return l
}

func TestP8_3WhatIsPutIsGot(t *testing.T) {
	for _, h := range heads() {
		b, e := fhead.Put(h)
		if len(b) != size || e != api.OK {
			t.Fatalf("Put(%s) = %x, %d", show(h), b, e)
		}
		for _, tail := range tails {
			wantGet(t, string(b)+tail, h, api.OK)
		}
	}
	for kind := range 256 {
		for flags := range 256 {
			h := fhead.Head{Len: 70000, Type: uint8(kind), Flags: uint8(flags), Stream: 70001}
			b, _ := fhead.Put(h)
			if got, e := fhead.Get(b); got != h || e != api.OK {
				t.Fatalf("%s is got as %s, %d", show(h), show(got), e)
			}
		}
	}
}

func TestP8_3EveryLenIsGot(t *testing.T) {
	for n := 0; n <= mostLen; n += 1 + n/50000 {
		h := fhead.Head{Len: n, Stream: n * 128}
		b, e := fhead.Put(h)
		if e != api.OK {
			t.Fatalf("Put(%s): %d", show(h), e)
		}
		if got, e := fhead.Get(b); got != h || e != api.OK {
			t.Fatalf("%s is got as %s, %d", show(h), show(got), e)
		}
	}
}

func TestP8_3AByteFewerIsCutOff(t *testing.T) {
	for _, h := range heads() {
		b, _ := fhead.Put(h)
		for n := range len(b) {
			// With the head's other bytes in the room behind, which are not what was given.
			if got, e := fhead.Get(b[:n]); got != (fhead.Head{}) || e != api.ErrCut {
				t.Fatalf("%s, cut off behind %d bytes: %s, %d, want ErrCut", show(h), n, show(got), e)
			}
			wantGet(t, string(b[:n]), fhead.Head{}, api.ErrCut)
		}
	}
}

// No two heads have the same bytes, and each one has its own whatever was put ahead of it.
func TestP8_3HeadsOneBehindAnother(t *testing.T) {
	l := heads()
	met := map[string]fhead.Head{}
	var all []byte
	for _, h := range l {
		b, _ := fhead.Put(h)
		if other, is := met[string(b)]; is && other != h {
			t.Fatalf("%s and %s have the same bytes", show(h), show(other))
		}
		met[string(b)] = h
		all = append(all, b...)
	}
	kept := bytes.Clone(all)
	var got []fhead.Head
	for at := 0; at < len(all); at += size {
		h, e := fhead.Get(all[at:])
		if e != api.OK {
			t.Fatalf("Get at %d: %d", at, e)
		}
		got = append(got, h)
	}
	if !slices.Equal(got, l) {
		t.Error("heads one behind another are not got as they were put")
	}
	if !bytes.Equal(all, kept) {
		t.Error("Get changed what came in")
	}
}

// What a head was read from may change behind that; the head does not, nor does what is put of it.
func TestP8_3GotIsNoPartOfWhatCame(t *testing.T) {
	b, _ := fhead.Put(fhead.Head{Len: 8, Type: 6, Flags: 1, Stream: 5})
	h, _ := fhead.Get(b)
	put, _ := fhead.Put(h)
	for i := range b {
		b[i] = 0xff
	}
	if h != (fhead.Head{Len: 8, Type: 6, Flags: 1, Stream: 5}) || string(put) != "\x00\x00\x08\x06\x01\x00\x00\x00\x05" {
		t.Errorf("%s, %x, once what came was changed", show(h), put)
	}
}
