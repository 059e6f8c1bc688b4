package huff_test

import (
	"bytes"
	"sort"
	"strconv"
	"strings"
	"sync"
	"testing"

	"footman/api"
	"footman/huff"
)

const end = 256

// chapterLengths is the chapter's table, and the end's length behind it.
const chapterLengths = `
13 23 28 28 28 28 28 28 28 24 30 28 28 30 28 28
28 28 28 28 28 28 30 28 28 28 28 28 28 28 28 28
6 10 10 12 13 6 8 11 10 10 8 11 8 6 6 6
5 5 5 6 6 6 6 6 6 6 7 8 15 6 12 10
13 6 7 7 7 7 7 7 7 7 7 7 7 7 7 7
7 7 7 7 7 7 7 7 8 7 8 13 19 13 14 6
15 5 6 5 6 5 6 6 6 5 7 7 6 6 6 5
6 7 6 5 5 6 7 7 7 7 7 15 11 14 13 28
20 22 20 20 22 22 22 23 22 23 23 23 23 23 24 23
24 24 22 23 24 23 23 23 23 21 22 23 22 23 23 24
22 21 20 22 22 23 23 21 23 22 22 24 21 22 23 23
21 21 22 21 23 22 23 23 20 22 22 22 23 22 22 23
26 26 20 19 22 23 22 25 26 26 26 27 27 26 24 25
19 21 26 27 27 26 27 24 21 21 26 26 28 27 27 27
20 24 20 21 22 21 21 23 22 22 25 25 24 24 26 23
26 27 26 26 27 27 27 27 27 28 27 27 27 27 27 26
30`

// modelCodes tells the codes of all signs, the end's last, as texts of 0 and 1, as the chapter tells them.
func modelCodes() []string {
	words := strings.Fields(chapterLengths)
	lengths, order := make([]int, len(words)), make([]int, len(words))
	for i, w := range words {
		lengths[i], _ = strconv.Atoi(w)
		order[i] = i
	}
	sort.SliceStable(order, func(i, j int) bool { return lengths[order[i]] < lengths[order[j]] })
	codes := make([]string, len(words))
	last := ""
	for i, c := range order {
		if i > 0 {
			last = oneMore(last)
		}
		last += strings.Repeat("0", lengths[c]-len(last))
		codes[c] = last
	}
	return codes
}

func oneMore(bits string) string {
	at := strings.LastIndexByte(bits, '0')
	return bits[:at] + "1" + strings.Repeat("0", len(bits)-at-1)
}

var codes = modelCodes()

func codeBits(s string) string {
	var bits strings.Builder
	for i := range len(s) {
		bits.WriteString(codes[s[i]])
	}
	return bits.String()
}

// pack lays bits into bytes, the first bit the highest, with ones behind up to a whole byte.
func pack(bits string) []byte {
	for len(bits)%8 != 0 {
		bits += "1"
	}
	b := make([]byte, 0, len(bits)/8)
	for ; bits != ""; bits = bits[8:] {
		x, _ := strconv.ParseUint(bits[:8], 2, 8)
		b = append(b, byte(x))
	}
	return b
}

// everyText goes over all texts whose codes have at most so many bits.
func everyText(most int, do func(string)) {
	var grow func(string, int)
	grow = func(s string, left int) {
		do(s)
		for c := range end {
			if n := len(codes[c]); n <= left {
				grow(s+string([]byte{byte(c)}), left-n)
			}
		}
	}
	grow("", most)
}

func allBytes() string {
	b := make([]byte, end)
	for c := range b {
		b[c] = byte(c)
	}
	return string(b)
}

// texts are ordinary ones, every byte alone and between others, the longest codes, and long texts.
func texts() []string {
	l := []string{
		"", "0", "a", "aa", "www.example.com", "no-cache", "custom-key", "custom-value", "private",
		"Mon, 21 Oct 2013 20:13:21 GMT", "https://www.example.com", "302", "307", "gzip",
		"foo=ASDJKHQKBZXOQWEOPIUAXQWEOIU; max-age=3600; version=1",
		"\n", "\r", "\x16", "\n\r\x16\n\r\x16\n\r", "a\nb\rc\x16d", "\x00", "\xff", "\x00\x00\x00", "\xff\xff\xff",
		"\u00e4\u20ac\U0001f600", "\xc3", allBytes(),
		strings.Repeat("0", 1000), strings.Repeat("\n", 1000), strings.Repeat(allBytes(), 17),
	}
	for c := range end {
		one := string([]byte{byte(c)})
		l = append(l, one, "/"+one, one+"0", one+one+one, "key: "+one+" value")
	}
	for n := range 70 {
		l = append(l, strings.Repeat("t", n), strings.Repeat("z", n), strings.Repeat("\t", n))
	}
	return l
}

func TestP2_1TheModelsCodesAreAWholeTree(t *testing.T) {
	sum := 0
	for _, bits := range codes {
		sum += 1 << (30 - len(bits))
	}
	if len(codes) != end+1 || sum != 1<<30 || codes[end] != strings.Repeat("1", 30) {
		t.Errorf("%d codes, %d of %d, the end %s", len(codes), sum, 1<<30, codes[end])
	}
}

func TestP2_1CodeOfEveryByte(t *testing.T) {
	for c := range end {
		want, _ := strconv.ParseUint(codes[c], 2, 32)
		if bits, n := huff.Code(byte(c)); uint64(bits) != want || n != len(codes[c]) {
			t.Errorf("Code(%d) = %#x, %d, want %#x, %d", c, bits, n, want, len(codes[c]))
		}
	}
}

func TestP2_1CodesThatAreKnown(t *testing.T) {
	for _, x := range []struct {
		c    byte
		bits uint32
		n    int
	}{
		{'0', 0x0, 5}, {'1', 0x1, 5}, {'2', 0x2, 5}, {'a', 0x3, 5}, {'t', 0x9, 5},
		{' ', 0x14, 6}, {'%', 0x15, 6}, {'u', 0x2d, 6}, {':', 0x5c, 7}, {'z', 0x7b, 7},
		{'&', 0xf8, 8}, {'Z', 0xfd, 8}, {'!', 0x3f8, 10}, {'?', 0x3fc, 10}, {'\'', 0x7fa, 11},
		{'|', 0x7fc, 11}, {'#', 0xffa, 12}, {'>', 0xffb, 12}, {0, 0x1ff8, 13}, {'~', 0x1ffd, 13},
		{'^', 0x3ffc, 14}, {'}', 0x3ffd, 14}, {'<', 0x7ffc, 15}, {'{', 0x7ffe, 15}, {'\\', 0x7fff0, 19},
		{208, 0x7fff2, 19}, {128, 0xfffe6, 20}, {9, 0xffffea, 24}, {199, 0x1ffffec, 25}, {255, 0x3ffffee, 26},
		{254, 0x7fffff0, 27}, {2, 0xfffffe2, 28}, {249, 0xffffffe, 28}, {'\n', 0x3ffffffc, 30}, {'\r', 0x3ffffffd, 30}, {22, 0x3ffffffe, 30},
	} {
		if bits, n := huff.Code(x.c); bits != x.bits || n != x.n {
			t.Errorf("Code(%d) = %#x, %d, want %#x, %d", x.c, bits, n, x.bits, x.n)
		}
	}
}

func TestP2_1EncodesThatAreKnown(t *testing.T) {
	for _, x := range []struct{ s, want string }{
		{"", ""},
		{"0", "\x07"},
		{"00000000", "\x00\x00\x00\x00\x00"},
		{"www.example.com", "\xf1\xe3\xc2\xe5\xf2\x3a\x6b\xa0\xab\x90\xf4\xff"},
		{"no-cache", "\xa8\xeb\x10\x64\x9c\xbf"},
		{"custom-key", "\x25\xa8\x49\xe9\x5b\xa9\x7d\x7f"},
		{"custom-value", "\x25\xa8\x49\xe9\x5b\xb8\xe8\xb4\xbf"},
		{"302", "\x64\x02"},
		{"307", "\x64\x0e\xff"},
		{"private", "\xae\xc3\x77\x1a\x4b"},
		{"Mon, 21 Oct 2013 20:13:21 GMT", "\xd0\x7a\xbe\x94\x10\x54\xd4\x44\xa8\x20\x05\x95\x04\x0b\x81\x66\xe0\x82\xa6\x2d\x1b\xff"},
		{"https://www.example.com", "\x9d\x29\xad\x17\x18\x63\xc7\x8f\x0b\x97\xc8\xe9\xae\x82\xae\x43\xd3"},
		{"gzip", "\x9b\xd9\xab"},
		{"\n", "\xff\xff\xff\xf3"},
		{"\x16", "\xff\xff\xff\xfb"},
		{"\r\r\r\r", "\xff\xff\xff\xf7\xff\xff\xff\xdf\xff\xff\xff\x7f\xff\xff\xfd"},
	} {
		if b := huff.Encode(x.s); string(b) != x.want {
			t.Errorf("Encode(%q) = %x, want %x", x.s, b, x.want)
		}
		if n := huff.Size(x.s); n != len(x.want) {
			t.Errorf("Size(%q) = %d, want %d", x.s, n, len(x.want))
		}
	}
}

func TestP2_1EncodeAndSizeAreAsTheModel(t *testing.T) {
	for _, s := range texts() {
		want := pack(codeBits(s))
		if b := huff.Encode(s); !bytes.Equal(b, want) {
			t.Errorf("Encode(%q) = %x, want %x", s, b, want)
		}
		if n := huff.Size(s); n != len(want) {
			t.Errorf("Size(%q) = %d, want %d", s, n, len(want))
		}
	}
}

func TestP2_1EncodeAnswersNewMemory(t *testing.T) {
	for _, s := range []string{"0", "www.example.com", "\n", allBytes()} {
		b := huff.Encode(s)
		kept := bytes.Clone(b)
		other := huff.Encode(s)
		other = other[:cap(other)]
		for i := range other {
			other[i] ^= 0xff
		}
		if !bytes.Equal(b, kept) || !bytes.Equal(huff.Encode(s), kept) {
			t.Errorf("two answers for %q share their memory", s)
		}
	}
}

// wantDecode asks for a text, or, with ok false, for ErrForm.
func wantDecode(t *testing.T, c *huff.Coder, b []byte, want string, ok bool) {
	t.Helper()
	wantE := api.OK
	if !ok {
		want, wantE = "", api.ErrForm
	}
	kept := bytes.Clone(b)
	s, e := c.Decode(b)
	if s != want || e != wantE {
		t.Errorf("Decode(%x) = %q, %d, want %q, %d", kept, s, e, want, wantE)
	}
	if !bytes.Equal(b, kept) {
		t.Errorf("Decode(%x) changed its argument", kept)
	}
}

func TestP2_2DecodeReads(t *testing.T) {
	c := huff.New()
	for _, s := range texts() {
		wantDecode(t, c, pack(codeBits(s)), s, true)
	}
	wantDecode(t, c, nil, "", true)
	wantDecode(t, c, []byte{}, "", true)
}

func TestP2_2ShortInputsAllOfThem(t *testing.T) {
	c := huff.New()
	known := map[string]string{}
	everyText(16, func(s string) { known[string(pack(codeBits(s)))] = s })
	for x := range 1 << 8 {
		b := []byte{byte(x)}
		want, ok := known[string(b)]
		wantDecode(t, c, b, want, ok)
	}
	for x := range 1 << 16 {
		b := []byte{byte(x >> 8), byte(x)}
		want, ok := known[string(b)]
		wantDecode(t, c, b, want, ok)
	}
}

func TestP2_2WrongInputs(t *testing.T) {
	c := huff.New()
	ones := strings.Repeat("1", 64)
	for _, bits := range []string{
		// A last byte of ones only.
		ones[:8], ones[:16], ones[:24], ones[:32], ones[:64],
		codeBits("00000000") + ones[:8],
		codeBits("www.example.com") + ones[:1+8],
		codeBits("0") + ones[:3+8],
		codeBits("\n") + ones[:2+8],
		codeBits(allBytes()) + ones[:8],
		// Zeros where ones must fill up.
		codeBits("0") + "000", codeBits("0") + "110", codeBits("0") + "101", codeBits("0") + "011",
		codeBits("8") + "00", codeBits("8") + "10", codeBits("8") + "01",
		codeBits(":") + "0", codeBits("\n") + "00", codeBits("\n") + "10", codeBits("\n") + "01",
		codeBits("www.example.com") + "1111110", codeBits("www.example.com") + "1111101",
		// Eight or more ones behind the last sign.
		codeBits("0") + ones[:3+16], codeBits("0") + ones[:3+24], codeBits(":") + ones[:1+8], codeBits("&") + ones[:8],
		// The code of the end, alone, ahead, within and behind.
		codes[end] + "11", codes[end] + "00", codes[end] + codes[end] + codes[end] + codes[end],
		codes[end] + codeBits("00") + ones[:8], codes[end] + codeBits("00000000") + "11",
		codeBits("0") + codes[end] + codeBits("0"), codeBits("00") + codes[end],
		codeBits("www.example.com") + codes[end] + codeBits("www.example.com") + ones[:6],
	} {
		if len(bits)%8 != 0 {
			bits += ones[:8-len(bits)%8]
		}
		wantDecode(t, c, pack(bits), "", false)
	}
}

// Each code that is cut off is wrong, but where what is left of it is ones, fewer than eight.
func TestP2_2CodesThatAreCutOff(t *testing.T) {
	c := huff.New()
	for x := range end {
		for ahead := range 8 {
			s := strings.Repeat("0", ahead) // five bits each: every place within a byte
			bits := codeBits(s) + codes[x]
			for most := len(s)*5 + 1; most < len(bits); most++ {
				if most%8 == 0 {
					left := bits[len(s)*5 : most]
					wantDecode(t, c, pack(bits[:most]), s, len(left) < 8 && !strings.Contains(left, "0"))
				}
			}
		}
	}
}

// Of each text's bytes, one byte more or fewer, or one bit other, is wrong, or another text that has just those bytes.
func TestP2_2BytesNearAText(t *testing.T) {
	c := huff.New()
	hold := func(b []byte) {
		t.Helper()
		s, e := c.Decode(b)
		if e == api.OK && !bytes.Equal(pack(codeBits(s)), b) || e != api.OK && (s != "" || e != api.ErrForm) {
			t.Errorf("Decode(%x) = %q, %d", b, s, e)
		}
	}
	for _, s := range texts() {
		b := pack(codeBits(s))
		if len(b) > 400 {
			continue
		}
		wantDecode(t, c, append(b[:len(b):len(b)], 0xff), "", false)
		for i := range b {
			hold(b[:i])
			for bit := range 8 {
				other := bytes.Clone(b)
				other[i] ^= 1 << bit
				hold(other)
			}
		}
	}
}

func TestP2_2NilCoder(t *testing.T) {
	var c *huff.Coder
	for _, b := range [][]byte{nil, {}, {0x07}, {0xff}, huff.Encode("www.example.com")} {
		if s, e := c.Decode(b); s != "" || e != api.ErrNil {
			t.Errorf("Decode(%x) of nil: %q, %d, want ErrNil", b, s, e)
		}
		if n := c.Built(); n != 0 {
			t.Errorf("Built of nil: %d", n)
		}
	}
}

func TestP2_2BuiltOnceWhateverIsAskedFirst(t *testing.T) {
	for _, first := range [][]byte{nil, {}, {0x07}, {0xff}, {0x00}, huff.Encode("www.example.com")} {
		c, other := huff.New(), huff.New()
		for range 3 {
			if n := c.Built(); n != 0 {
				t.Errorf("Built ahead of the first Decode: %d", n)
			}
		}
		c.Decode(first)
		for range 100 {
			if n := c.Built(); n != 1 {
				t.Fatalf("Built behind Decode(%x): %d", first, n)
			}
			wantDecode(t, c, huff.Encode("no-cache"), "no-cache", true)
			wantDecode(t, c, []byte{0xff}, "", false)
			wantDecode(t, c, nil, "", true)
		}
		if n := other.Built(); n != 0 {
			t.Errorf("Built of another coder: %d", n)
		}
		wantDecode(t, other, huff.Encode("gzip"), "gzip", true)
		if n := other.Built(); n != 1 {
			t.Errorf("Built of another coder: %d", n)
		}
	}
}

func TestP2_2BuiltOnceByManyAtOnce(t *testing.T) {
	c := huff.New()
	b := huff.Encode(allBytes())
	var all sync.WaitGroup
	for range 32 {
		all.Go(func() {
			if s, e := c.Decode(b); s != allBytes() || e != api.OK {
				t.Errorf("%q, %d", s, e)
			}
			if n := c.Built(); n != 1 {
				t.Errorf("Built: %d", n)
			}
		})
	}
	all.Wait()
}

func TestP2_2TheTextIsNewMemory(t *testing.T) {
	c := huff.New()
	b := huff.Encode("www.example.com")
	s, _ := c.Decode(b)
	clear(b)
	if s != "www.example.com" {
		t.Errorf("the text changed with the argument: %q", s)
	}
}

func TestP2_3WhatIsEncodedIsDecoded(t *testing.T) {
	c := huff.New()
	for _, s := range texts() {
		wantDecode(t, c, huff.Encode(s), s, true)
	}
	for x := range end {
		for y := range end {
			s := string([]byte{byte(x), byte(y)})
			wantDecode(t, c, huff.Encode(s), s, true)
		}
	}
}

func TestP2_3UnlikeTextsHaveUnlikeBits(t *testing.T) {
	met := map[string]string{}
	hold := func(s string) {
		b := string(huff.Encode(s))
		if other, there := met[b]; there && other != s {
			t.Errorf("%q and %q are both %x", s, other, b)
		}
		met[b] = s
	}
	everyText(19, hold)
	for _, s := range texts() {
		hold(s)
	}
	for x := range end {
		for y := range end {
			hold(string([]byte{byte(x), byte(y)}))
		}
	}
}

func TestP2_3TwoTextsBitsTogether(t *testing.T) {
	c := huff.New()
	l := []string{"", "0", "8", ":", "&", "!", "\n", "\x16", "\xff", "00000000", "\n\n\n\n", "gzip", "302", "www.example.com", "https://www.example.com", allBytes()}
	for _, a := range l {
		for _, b := range l {
			wantDecode(t, c, pack(codeBits(a)+codeBits(b)), a+b, true)
			if !bytes.Equal(huff.Encode(a+b), pack(codeBits(a)+codeBits(b))) {
				t.Errorf("%q and %q: %x", a, b, huff.Encode(a+b))
			}
			if len(codeBits(a))%8 == 0 { // nothing fills up between
				wantDecode(t, c, append(huff.Encode(a), huff.Encode(b)...), a+b, true)
			}
		}
	}
}
