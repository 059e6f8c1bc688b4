package repr_test

import (
	"bytes"
	"math"
	"math/rand"
	"slices"
	"strconv"
	"strings"
	"testing"

	"footman/api"
	"footman/huff"
	"footman/prefint"
	"footman/repr"
)

const most = 4096 // bytes of a name, of a value, and of what a length tells

// heads are the bits ahead of the kinds' numbers, as the chapter tells them, by kind.
var heads = []string{"1", "01", "0000", "0001", "001"}

var kindNames = []string{"Indexed", "Adding", "Plain", "Never", "Resize"}

func texted(kind uint8) bool {
	return kind == repr.Adding || kind == repr.Plain || kind == repr.Never
}

// number tells the bytes of a number behind some bits, the first byte laid as a text of 0 and 1.
func number(head string, n int) string {
	width := 8 - len(head)
	ones := strings.Repeat("1", width)
	most, _ := strconv.ParseUint(ones, 2, 8)
	low := strconv.FormatInt(int64(n), 2)
	if n >= int(most) {
		low = ones
	}
	first, _ := strconv.ParseUint(head+strings.Repeat("0", width-len(low))+low, 2, 8)
	b := []byte{byte(first)}
	if n < int(most) {
		return string(b)
	}
	left := n - int(most)
	for left >= 128 {
		b = append(b, byte(left%128+128))
		left /= 128
	}
	return string(append(b, byte(left)))
}

func plainText(s string) string { return number("0", len(s)) + s }

func codedText(s string) string {
	b := huff.Encode(s)
	return number("1", len(b)) + string(b)
}

// textBytes is what Text must tell.
func textBytes(s string) string {
	plain, coded := plainText(s), codedText(s)
	if len(coded) < len(plain) {
		return coded
	}
	return plain
}

// itemBytes is what Put must tell of an item that may be.
func itemBytes(x repr.Item) string {
	b := number(heads[x.Kind], x.Index)
	if texted(x.Kind) && x.Index == 0 {
		b += textBytes(x.Name)
	}
	if texted(x.Kind) {
		b += textBytes(x.Value)
	}
	return b
}

// modelText is what GetText must tell.
func modelText(b string) (string, int, api.Errno) {
	if b == "" {
		return "", 0, api.ErrCut
	}
	length, n, e := prefint.Get([]byte(b), 7)
	if e != api.OK {
		return "", 0, e
	}
	if length > most {
		return "", 0, api.ErrLong
	}
	if len(b) < n+length {
		return "", 0, api.ErrCut
	}
	s := b[n : n+length]
	if b[0] >= 128 {
		s, e = huff.New().Decode([]byte(s))
		if e != api.OK {
			return "", 0, api.ErrForm
		}
	}
	return s, n + length, api.OK
}

// modelItem is what Get must tell.
func modelItem(b string) (repr.Item, int, api.Errno) {
	if b == "" {
		return repr.Item{}, 0, api.ErrCut
	}
	first := strconv.FormatUint(256+uint64(b[0]), 2)[1:]
	kind := slices.IndexFunc(heads, func(head string) bool { return strings.HasPrefix(first, head) })
	index, n, e := prefint.Get([]byte(b), 8-len(heads[kind]))
	x := repr.Item{Kind: uint8(kind), Index: index}
	if e == api.OK && x.Kind == repr.Indexed && index == 0 {
		e = api.ErrForm
	}
	size := 0
	if e == api.OK && texted(x.Kind) && index == 0 {
		x.Name, size, e = modelText(b[n:])
		n += size
	}
	if e == api.OK && texted(x.Kind) {
		x.Value, size, e = modelText(b[n:])
		n += size
	}
	if e != api.OK {
		return repr.Item{}, 0, e
	}
	return x, n, api.OK
}

// short keeps what a failure tells short.
func short(s string) string {
	return strconv.Quote(s[:min(len(s), 20)]) + "(" + strconv.Itoa(len(s)) + ")"
}

func show(x repr.Item) string {
	return "{" + strconv.Itoa(int(x.Kind)) + " " + strconv.Itoa(x.Index) + " " + short(x.Name) + " " + short(x.Value) + "}"
}

func wantText(t *testing.T, s, want string) {
	t.Helper()
	if b := repr.Text(s); string(b) != want {
		t.Errorf("Text(%s) = %s, want %s", short(s), short(string(b)), short(want))
	}
}

// wantGetText also holds that the argument stays as it is.
func wantGetText(t *testing.T, b, want string, size int, wantE api.Errno) {
	t.Helper()
	came := []byte(b)
	s, n, e := repr.GetText(came)
	if s != want || n != size || e != wantE {
		t.Errorf("GetText(%s) = %s, %d, %d, want %s, %d, %d", short(b), short(s), n, e, short(want), size, wantE)
	}
	if string(came) != b {
		t.Errorf("GetText changed %s", short(b))
	}
}

func wantCheck(t *testing.T, x repr.Item, want api.Errno) {
	t.Helper()
	if e := repr.Check(x); e != want {
		t.Errorf("Check(%s) = %d, want %d", show(x), e, want)
	}
	b, e := repr.Put(x)
	if e != want {
		t.Errorf("Put(%s) = %d, want %d", show(x), e, want)
	}
	if want != api.OK && len(b) != 0 {
		t.Errorf("Put(%s) = %s beside an error", show(x), short(string(b)))
	}
}

func wantPut(t *testing.T, x repr.Item, want string) {
	t.Helper()
	if b, e := repr.Put(x); string(b) != want || e != api.OK {
		t.Errorf("Put(%s) = %s, %d, want %s", show(x), short(string(b)), e, short(want))
	}
}

// wantGet also holds that the argument stays as it is.
func wantGet(t *testing.T, b string, want repr.Item, size int, wantE api.Errno) {
	t.Helper()
	came := []byte(b)
	x, n, e := repr.Get(came)
	if x != want || n != size || e != wantE {
		t.Errorf("Get(%s) = %s, %d, %d, want %s, %d, %d", short(b), show(x), n, e, show(want), size, wantE)
	}
	if string(came) != b {
		t.Errorf("Get changed %s", short(b))
	}
}

// wantAll also holds that the argument stays as it is.
func wantAll(t *testing.T, b string, want []repr.Item, wantE api.Errno) {
	t.Helper()
	came := []byte(b)
	l, e := repr.All(came)
	if !slices.Equal(l, want) || e != wantE {
		t.Errorf("All(%s): %d items, %d, want %d, %d", short(b), len(l), e, len(want), wantE)
	}
	if string(came) != b {
		t.Errorf("All changed %s", short(b))
	}
}

// texts are ordinary ones, and those whose codes are shorter than they are, as long, and longer, at every edge of a length.
func texts() []string {
	l := []string{
		"", "a", "0", "00", "000", "www.example.com", "no-cache", "custom-key", "custom-header", "password", "secret", "302", "/sample/path",
		"Mon, 21 Oct 2013 20:13:21 GMT", "foo=ASDJKHQKBZXOQWEOPIUAXQWEOIU; max-age=3600; version=1",
		"&", "&&&&", "&0", "<", "{}", "\x00", "\xff", "\n", "\x00\x01\x02", "\r\n\r\n", "\u00e4\u20ac\U0001f600",
	}
	for c := range 256 {
		l = append(l, string([]byte{byte(c)}), string([]byte{'0', byte(c), '0'}))
	}
	for _, n := range []int{2, 3, 125, 126, 127, 128, 129, 200, 202, 203, 204, 254, 255, 256, 1024, 4095, most, most + 1} {
		// Codes of 5, 7, 8, 13 and 30 bits.
		for _, c := range []string{"0", "z", "&", "\x00", "\n"} {
			l = append(l, strings.Repeat(c, n))
		}
		l = append(l, strings.Repeat("&", n-1)+"0", strings.Repeat("&", n-2)+"0 ")
	}
	return l
}

// fitting are the texts that an item may have.
func fitting() []string {
	return slices.DeleteFunc(texts(), func(s string) bool { return len(s) > most })
}

// behind is what may stand behind what is read.
func behind() []string {
	return []string{"", "\x00", "\x80", "\xff", "\x7f", "\xff\xff\xff\xff\xff\xff", "\x40\x01a\x01b", strings.Repeat("\x82", 300)}
}

// someTexts are fewer, where each is held against each.
func someTexts() []string {
	return []string{"", "0", "000", "\x00", "www.example.com", "custom-key", strings.Repeat("&", 127), strings.Repeat("z", 127), strings.Repeat("\n", most), strings.Repeat("0", most)}
}

var indexes = []int{0, 1, 2, 14, 15, 16, 30, 31, 32, 61, 62, 63, 64, 126, 127, 128, 254, 255, 256, 4095, most, most + 1, 1 << 16, 1<<21 + 14, api.MaxInt - 1, api.MaxInt}

var farIndexes = []int{-1, -2, -62, -128, math.MinInt32, -1 << 32, -1<<32 + 1, math.MinInt, math.MinInt + 1, api.MaxInt + 1, api.MaxInt + 2, 1 << 29, 1 << 31, 1 << 32, 1<<32 + 1, 1 << 40, math.MaxInt}

// items are some that may be, of each kind.
func items() []repr.Item {
	var l []repr.Item
	for kind := range uint8(5) {
		for _, i := range indexes {
			if i == 0 && kind == repr.Indexed {
				continue
			}
			if !texted(kind) {
				l = append(l, repr.Item{Kind: kind, Index: i})
				continue
			}
			for _, value := range someTexts() {
				if i != 0 {
					l = append(l, repr.Item{Kind: kind, Index: i, Value: value})
					continue
				}
				for _, name := range someTexts() {
					l = append(l, repr.Item{Kind: kind, Name: name, Value: value})
				}
			}
		}
	}
	return l
}

// Lengths at which what is told changes: in one byte and in two, by code and plainly.
func TestP5_1TextTellsBytes(t *testing.T) {
	for _, x := range []struct{ s, want string }{
		{"", "\x00"},
		// Shorter by code.
		{"000", "\x82\x00\x01"},
		{"302", "\x82\x64\x02"},
		{"gzip", "\x83\x9b\xd9\xab"},
		{"no-cache", "\x86\xa8\xeb\x10\x64\x9c\xbf"},
		{"custom-key", "\x88\x25\xa8\x49\xe9\x5b\xa9\x7d\x7f"},
		{"custom-value", "\x89\x25\xa8\x49\xe9\x5b\xb8\xe8\xb4\xbf"},
		{"www.example.com", "\x8c\xf1\xe3\xc2\xe5\xf2\x3a\x6b\xa0\xab\x90\xf4\xff"},
		{"Mon, 21 Oct 2013 20:13:21 GMT", "\x96\xd0\x7a\xbe\x94\x10\x54\xd4\x44\xa8\x20\x05\x95\x04\x0b\x81\x66\xe0\x82\xa6\x2d\x1b\xff"},
		// As long.
		{"0", "\x010"},
		{"a", "\x01a"},
		{"00", "\x0200"},
		{"&", "\x01&"},
		{"&&&&", "\x04&&&&"},
		{"zzzzzzz", "\x07zzzzzzz"},
		// Shorter by just a byte.
		{"zzzzzzzz", "\x87\xf7\xef\xdf\xbf\x7e\xfd\xfb"},
		// Longer by code.
		{"\x00", "\x01\x00"},
		{"\n", "\x01\n"},
		{"\xff\xfe", "\x02\xff\xfe"},
		{"<>", "\x02<>"},
	} {
		wantText(t, x.s, x.want)
	}
}

func TestP5_1TextAtEdgesOfLengths(t *testing.T) {
	for n, head := range map[int]string{126: "\x7e", 127: "\x7f\x00", 128: "\x7f\x01", 254: "\x7f\x7f", 255: "\x7f\x80\x01", most: "\x7f\x81\x1f", most + 1: "\x7f\x82\x1f"} {
		for _, c := range []string{"&", "\n", "\x00"} {
			s := strings.Repeat(c, n)
			wantText(t, s, head+s)
		}
	}
	// Eight 0 have a code of five zeros.
	for n, head := range map[int]string{200: "\xfd", 1000: "\xff\xf2\x03", most: "\xff\x81\x13"} {
		wantText(t, strings.Repeat("0", n), head+strings.Repeat("\x00", n/8*5))
	}
	wantText(t, strings.Repeat("0", most+1), "\xff\x82\x13"+strings.Repeat("\x00", most/8*5)+"\x07")
	// The length in two bytes plainly, and in one by code; the code shorter by a byte alone.
	wantText(t, strings.Repeat("&", 125)+"00", "\x7f\x00"+strings.Repeat("&", 125)+"00")
	wantText(t, strings.Repeat("&", 124)+"000", "\xfe"+strings.Repeat("\xf8", 124)+"\x00\x01")
	wantText(t, strings.Repeat("&", 125)+"000", "\xff\x00"+strings.Repeat("\xf8", 125)+"\x00\x01")
}

func TestP5_1TextIsAsTheModel(t *testing.T) {
	for _, s := range texts() {
		wantText(t, s, textBytes(s))
	}
	for x := range 256 {
		for y := range 256 {
			s := string([]byte{byte(x), byte(y), '0'})
			wantText(t, s, textBytes(s))
		}
	}
}

func TestP5_1GetTextReads(t *testing.T) {
	for _, x := range []struct {
		b, want string
	}{
		{"\x00", ""},
		{"\x80", ""},
		{"\x81\x07", "0"},
		{"\x010", "0"},
		{"\x82\x64\x02", "302"},
		{"\x03302", "302"},
		{"\x8c\xf1\xe3\xc2\xe5\xf2\x3a\x6b\xa0\xab\x90\xf4\xff", "www.example.com"},
		{"\x0fwww.example.com", "www.example.com"},
		{"\x84\xff\xff\xff\xf3", "\n"},
		{"\x01\xff", "\xff"},
		{"\x02\xc3\x28", "\xc3\x28"},
		{"\x7f\x00" + strings.Repeat("a", 127), strings.Repeat("a", 127)},
		{"\x7f\x81\x1f" + strings.Repeat("a", most), strings.Repeat("a", most)},
		{"\xff\x81\x1f" + strings.Repeat("\xf8", most), strings.Repeat("&", most)},
		// A length in more groups than it needs.
		{"\x7f\x80\x00" + strings.Repeat("a", 127), strings.Repeat("a", 127)},
		{"\x7f\x81\x9f\x80\x80\x00" + strings.Repeat("a", most), strings.Repeat("a", most)},
	} {
		for _, more := range behind() {
			wantGetText(t, x.b+more, x.want, len(x.b), api.OK)
		}
	}
}

// The length that is told is bounded, not that of the text whose code it is.
func TestP5_1GetTextOfALongTextByAShortCode(t *testing.T) {
	for _, n := range []int{most, most + 1, 6552} {
		s := strings.Repeat("0", n)
		wantGetText(t, codedText(s)+"0", s, len(codedText(s)), api.OK)
	}
	wantGetText(t, "\xff\x81\x1f"+string(huff.Encode(strings.Repeat("0", 6553))), strings.Repeat("0", 6553), 3+most, api.OK)
	wantGetText(t, codedText(strings.Repeat("0", 6554)), "", 0, api.ErrLong)
}

func TestP5_1GetTextWrong(t *testing.T) {
	for _, x := range []struct {
		b    string
		want api.Errno
	}{
		{"", api.ErrCut},
		// The length is cut off.
		{"\x7f", api.ErrCut}, {"\xff", api.ErrCut},
		{"\x7f\x80", api.ErrCut}, {"\xff\x80\x80\x80", api.ErrCut},
		{"\x7f\xff\xff\xff\xff", api.ErrCut},
		// It is none.
		{"\x7f\x80\x80\x80\x80\x80", api.ErrRange}, {"\xff\x80\x80\x80\x80\x80\x00", api.ErrRange},
		{"\x7f\x81\xff\xff\x7f", api.ErrRange}, {"\xff\x81\xff\xff\x7f", api.ErrRange},
		{"\x7f\xff\xff\xff\xff\x7f", api.ErrRange},
		// It is too great: whatever stands behind.
		{"\x7f\x80\xff\xff\x7f", api.ErrLong}, {"\xff\x80\xff\xff\x7f", api.ErrLong},
		{"\x7f\x82\x1f", api.ErrLong}, {"\xff\x82\x1f", api.ErrLong},
		{"\x7f\x82\x1f" + strings.Repeat("a", most), api.ErrLong},
		{"\x7f\x82\x1f" + strings.Repeat("a", most+1), api.ErrLong},
		{"\xff\x82\x1f" + strings.Repeat("\xff", most+1), api.ErrLong},
		{"\xff\x82\x1f" + strings.Repeat("\xf8", most+2), api.ErrLong},
		// Fewer bytes stand behind.
		{"\x01", api.ErrCut}, {"\x81", api.ErrCut}, {"\x05abc", api.ErrCut}, {"\x05abcd", api.ErrCut}, {"\x7e", api.ErrCut},
		{"\x7f\x81\x1f", api.ErrCut},
		{"\x7f\x81\x1f" + strings.Repeat("a", most-1), api.ErrCut},
		{"\xff\x81\x1f" + strings.Repeat("\xf8", most-1), api.ErrCut},
		// And what stands there is no code.
		{"\x82\xff", api.ErrCut}, {"\x83\x00\x00", api.ErrCut},
		// A code that is none: of the end, of ones only, of zeros that fill up.
		{"\x81\x00", api.ErrForm}, {"\x81\xff", api.ErrForm}, {"\x81\x06", api.ErrForm}, {"\x82\x07\xff", api.ErrForm},
		{"\x84\xff\xff\xff\xff", api.ErrForm}, {"\x84\xff\xff\xff\xfc", api.ErrForm}, {"\x83\x64\x02\xff", api.ErrForm},
		{"\x85\xff\xff\xff\xfc\x1f", api.ErrForm},
		{"\xff\x81\x1f" + strings.Repeat("\xff", most), api.ErrForm},
		{"\x81\x00a", api.ErrForm},
	} {
		wantGetText(t, x.b, "", 0, x.want)
	}
	if s, n, e := repr.GetText(nil); s != "" || n != 0 || e != api.ErrCut {
		t.Errorf("GetText(nil) = %q, %d, %d", s, n, e)
	}
}

// All inputs of up to two bytes, and of three behind each first byte that tells a code.
func TestP5_1GetTextOfShortInputs(t *testing.T) {
	hold := func(b string) {
		t.Helper()
		s, n, e := modelText(b)
		wantGetText(t, b, s, n, e)
	}
	for x := range 256 {
		hold(string([]byte{byte(x)}))
		for y := range 256 {
			hold(string([]byte{byte(x), byte(y)}))
			hold(string([]byte{0x82, byte(x), byte(y)}))
		}
	}
}

func TestP5_1GetTextOfATextThatIsCutOff(t *testing.T) {
	for _, s := range []string{"0", "\x00", "www.example.com", strings.Repeat("&", 127), strings.Repeat("z", 200), strings.Repeat("\n", 300)} {
		for _, whole := range []string{plainText(s), codedText(s)} {
			for n := range len(whole) {
				wantGetText(t, whole[:n], "", 0, api.ErrCut)
			}
			wantGetText(t, whole, s, len(whole), api.OK)
		}
	}
}

func TestP5_2CheckOfItemsThatMayBe(t *testing.T) {
	for _, x := range items() {
		wantCheck(t, x, api.OK)
	}
	for _, kind := range []uint8{repr.Adding, repr.Plain, repr.Never} {
		wantCheck(t, repr.Item{Kind: kind}, api.OK)
		wantCheck(t, repr.Item{Kind: kind, Name: "a"}, api.OK)
		wantCheck(t, repr.Item{Kind: kind, Value: "a"}, api.OK)
		wantCheck(t, repr.Item{Kind: kind, Index: 1}, api.OK)
		wantCheck(t, repr.Item{Kind: kind, Index: api.MaxInt, Value: "a"}, api.OK)
	}
	wantCheck(t, repr.Item{Kind: repr.Resize}, api.OK)
	wantCheck(t, repr.Item{Kind: repr.Resize, Index: api.MaxInt}, api.OK)
	wantCheck(t, repr.Item{Kind: repr.Indexed, Index: 1}, api.OK)
	wantCheck(t, repr.Item{Kind: repr.Indexed, Index: api.MaxInt}, api.OK)
}

// Whatever else is wrong, too.
func TestP5_2KindsThatAreNone(t *testing.T) {
	for kind := 5; kind < 256; kind++ {
		for _, i := range []int{-1, 0, 1, api.MaxInt, api.MaxInt + 1} {
			wantCheck(t, repr.Item{Kind: uint8(kind), Index: i}, api.ErrKind)
			wantCheck(t, repr.Item{Kind: uint8(kind), Index: i, Name: "a", Value: "b"}, api.ErrKind)
		}
		wantCheck(t, repr.Item{Kind: uint8(kind), Index: -1, Name: strings.Repeat("n", most+1), Value: strings.Repeat("v", most+1)}, api.ErrKind)
	}
}

func TestP5_2IndexesOutOfRange(t *testing.T) {
	long := strings.Repeat("v", most+1)
	for kind := range uint8(5) {
		for _, i := range farIndexes {
			for _, name := range []string{"", "a", long} {
				for _, value := range []string{"", "b", long} {
					wantCheck(t, repr.Item{Kind: kind, Index: i, Name: name, Value: value}, api.ErrRange)
				}
			}
		}
	}
	for _, name := range []string{"", "a", long} {
		for _, value := range []string{"", "b", long} {
			wantCheck(t, repr.Item{Kind: repr.Indexed, Name: name, Value: value}, api.ErrRange)
		}
	}
}

// However long it is: what is not needed is named ahead of what is too long.
func TestP5_2FieldsThatAreNotNeeded(t *testing.T) {
	for _, s := range []string{"a", "\x00", strings.Repeat("n", most), strings.Repeat("n", most+1)} {
		for _, i := range []int{1, 2, 62, api.MaxInt} {
			for _, kind := range []uint8{repr.Indexed, repr.Resize} {
				wantCheck(t, repr.Item{Kind: kind, Index: i, Name: s}, api.ErrForm)
				wantCheck(t, repr.Item{Kind: kind, Index: i, Value: s}, api.ErrForm)
				wantCheck(t, repr.Item{Kind: kind, Index: i, Name: s, Value: s}, api.ErrForm)
			}
			for _, kind := range []uint8{repr.Adding, repr.Plain, repr.Never} {
				wantCheck(t, repr.Item{Kind: kind, Index: i, Name: s}, api.ErrForm)
				wantCheck(t, repr.Item{Kind: kind, Index: i, Name: s, Value: s}, api.ErrForm)
				wantCheck(t, repr.Item{Kind: kind, Index: i, Name: "a", Value: s}, api.ErrForm)
			}
		}
		wantCheck(t, repr.Item{Kind: repr.Resize, Name: s}, api.ErrForm)
		wantCheck(t, repr.Item{Kind: repr.Resize, Value: s}, api.ErrForm)
	}
}

func TestP5_2TextsThatAreTooLong(t *testing.T) {
	// By code 4097 of the first are far fewer than 4096; it is the text that is bounded.
	for _, c := range []string{"0", "&", "\n"} {
		just, long, longer := strings.Repeat(c, most), strings.Repeat(c, most+1), strings.Repeat(c, 1<<17)
		for _, kind := range []uint8{repr.Adding, repr.Plain, repr.Never} {
			wantCheck(t, repr.Item{Kind: kind, Name: just, Value: just}, api.OK)
			wantCheck(t, repr.Item{Kind: kind, Index: 1, Value: just}, api.OK)
			for _, s := range []string{long, longer} {
				wantCheck(t, repr.Item{Kind: kind, Name: s}, api.ErrLong)
				wantCheck(t, repr.Item{Kind: kind, Value: s}, api.ErrLong)
				wantCheck(t, repr.Item{Kind: kind, Name: just, Value: s}, api.ErrLong)
				wantCheck(t, repr.Item{Kind: kind, Name: s, Value: just}, api.ErrLong)
				wantCheck(t, repr.Item{Kind: kind, Index: 1, Value: s}, api.ErrLong)
				wantCheck(t, repr.Item{Kind: kind, Index: api.MaxInt, Value: s}, api.ErrLong)
			}
		}
	}
}

func TestP5_2PutTellsBytes(t *testing.T) {
	for _, x := range []struct {
		x    repr.Item
		want string
	}{
		{repr.Item{Kind: repr.Adding, Index: 1, Value: "www.example.com"}, "\x41\x8c\xf1\xe3\xc2\xe5\xf2\x3a\x6b\xa0\xab\x90\xf4\xff"},
		{repr.Item{Kind: repr.Indexed, Index: 1}, "\x81"},
		{repr.Item{Kind: repr.Indexed, Index: 2}, "\x82"},
		{repr.Item{Kind: repr.Indexed, Index: 126}, "\xfe"},
		{repr.Item{Kind: repr.Indexed, Index: 127}, "\xff\x00"},
		{repr.Item{Kind: repr.Indexed, Index: api.MaxInt}, "\xff\x80\xff\xff\x7f"},
		{repr.Item{Kind: repr.Adding}, "\x40\x00\x00"},
		{repr.Item{Kind: repr.Adding, Name: "a", Value: "b"}, "\x40\x01a\x01b"},
		{repr.Item{Kind: repr.Adding, Name: "custom-key", Value: "custom-value"}, "\x40\x88\x25\xa8\x49\xe9\x5b\xa9\x7d\x7f\x89\x25\xa8\x49\xe9\x5b\xb8\xe8\xb4\xbf"},
		{repr.Item{Kind: repr.Adding, Index: 58, Value: "no-cache"}, "\x7a\x86\xa8\xeb\x10\x64\x9c\xbf"},
		{repr.Item{Kind: repr.Adding, Index: 62, Value: "&"}, "\x7e\x01&"},
		{repr.Item{Kind: repr.Adding, Index: 63, Value: "&"}, "\x7f\x00\x01&"},
		{repr.Item{Kind: repr.Adding, Index: api.MaxInt}, "\x7f\xc0\xff\xff\x7f\x00"},
		{repr.Item{Kind: repr.Plain}, "\x00\x00\x00"},
		{repr.Item{Kind: repr.Plain, Name: "\x00", Value: "\x01"}, "\x00\x01\x00\x01\x01"},
		{repr.Item{Kind: repr.Plain, Index: 4, Value: "\x00"}, "\x04\x01\x00"},
		{repr.Item{Kind: repr.Plain, Index: 14}, "\x0e\x00"},
		{repr.Item{Kind: repr.Plain, Index: 15}, "\x0f\x00\x00"},
		{repr.Item{Kind: repr.Plain, Index: api.MaxInt}, "\x0f\xf0\xff\xff\x7f\x00"},
		{repr.Item{Kind: repr.Never}, "\x10\x00\x00"},
		{repr.Item{Kind: repr.Never, Name: "<", Value: ">"}, "\x10\x01<\x01>"},
		{repr.Item{Kind: repr.Never, Index: 14}, "\x1e\x00"},
		{repr.Item{Kind: repr.Never, Index: 16, Value: "302"}, "\x1f\x01\x82\x64\x02"},
		{repr.Item{Kind: repr.Never, Index: api.MaxInt}, "\x1f\xf0\xff\xff\x7f\x00"},
		{repr.Item{Kind: repr.Resize}, "\x20"},
		{repr.Item{Kind: repr.Resize, Index: 30}, "\x3e"},
		{repr.Item{Kind: repr.Resize, Index: 31}, "\x3f\x00"},
		{repr.Item{Kind: repr.Resize, Index: 4096}, "\x3f\xe1\x1f"},
		{repr.Item{Kind: repr.Resize, Index: api.MaxInt}, "\x3f\xe0\xff\xff\x7f"},
	} {
		wantPut(t, x.x, x.want)
	}
}

func TestP5_2PutIsAsTheModel(t *testing.T) {
	for _, x := range items() {
		wantPut(t, x, itemBytes(x))
	}
	for _, s := range fitting() {
		for _, kind := range []uint8{repr.Adding, repr.Plain, repr.Never} {
			for _, x := range []repr.Item{{Kind: kind, Name: s}, {Kind: kind, Value: s}, {Kind: kind, Index: 62, Value: s}} {
				wantPut(t, x, itemBytes(x))
			}
		}
	}
	for kind := range uint8(5) {
		for i := 1; i < 1000; i++ {
			x := repr.Item{Kind: kind, Index: i}
			wantPut(t, x, itemBytes(x))
		}
	}
}

func TestP5_3GetReads(t *testing.T) {
	for _, x := range []struct {
		b    string
		want repr.Item
	}{
		{"\x41\x8c\xf1\xe3\xc2\xe5\xf2\x3a\x6b\xa0\xab\x90\xf4\xff", repr.Item{Kind: repr.Adding, Index: 1, Value: "www.example.com"}},
		{"\x41\x0fwww.example.com", repr.Item{Kind: repr.Adding, Index: 1, Value: "www.example.com"}},
		{"\x40\x0acustom-key\x0dcustom-header", repr.Item{Kind: repr.Adding, Name: "custom-key", Value: "custom-header"}},
		{"\x04\x0c/sample/path", repr.Item{Kind: repr.Plain, Index: 4, Value: "/sample/path"}},
		{"\x10\x08password\x06secret", repr.Item{Kind: repr.Never, Name: "password", Value: "secret"}},
		{"\x82", repr.Item{Kind: repr.Indexed, Index: 2}},
		{"\x81", repr.Item{Kind: repr.Indexed, Index: 1}},
		{"\x20", repr.Item{Kind: repr.Resize}},
		{"\x3f\xe1\x1f", repr.Item{Kind: repr.Resize, Index: 4096}},
		{"\x40\x00\x00", repr.Item{Kind: repr.Adding}},
		{"\x40\x80\x80", repr.Item{Kind: repr.Adding}},
		{"\x00\x81\x07\x00", repr.Item{Kind: repr.Plain, Name: "0"}},
		{"\x10\x00\x81\x07", repr.Item{Kind: repr.Never, Value: "0"}},
		{"\xff\x80\xff\xff\x7f", repr.Item{Kind: repr.Indexed, Index: api.MaxInt}},
		{"\x0f\xf0\xff\xff\x7f\x01a", repr.Item{Kind: repr.Plain, Index: api.MaxInt, Value: "a"}},
		// A number in more groups than it needs.
		{"\xff\x80\x80\x80\x80\x00", repr.Item{Kind: repr.Indexed, Index: 127}},
		{"\x3f\x80\x00", repr.Item{Kind: repr.Resize, Index: 31}},
		{"\x7f\x80\x80\x00\x01a", repr.Item{Kind: repr.Adding, Index: 63, Value: "a"}},
		{"\x00\x7f\x81\x1f" + strings.Repeat("n", most) + "\x7f\x81\x1f" + strings.Repeat("v", most), repr.Item{Kind: repr.Plain, Name: strings.Repeat("n", most), Value: strings.Repeat("v", most)}},
	} {
		for _, more := range behind() {
			wantGet(t, x.b+more, x.want, len(x.b), api.OK)
		}
	}
}

// A number in the first byte alone, or one that goes on; the texts behind it.
func TestP5_3EveryFirstByte(t *testing.T) {
	for first := range 256 {
		b := string([]byte{byte(first)})
		kind, low := repr.Plain, 16
		switch {
		case first >= 128:
			kind, low = repr.Indexed, 128
		case first >= 64:
			kind, low = repr.Adding, 64
		case first >= 32:
			kind, low = repr.Resize, 32
		case first >= 16:
			kind = repr.Never
		}
		x := repr.Item{Kind: kind, Index: first % low}
		whole := b
		if x.Index == low-1 {
			whole, x.Index = whole+"\x05", x.Index+5
		}
		if texted(kind) && x.Index == 0 {
			whole, x.Name = whole+"\x03xyz", "xyz"
		}
		if texted(kind) {
			whole, x.Value = whole+"\x82\x64\x02", "302"
		}
		if first == 128 {
			wantGet(t, whole, repr.Item{}, 0, api.ErrForm)
			wantGet(t, whole+"\x82", repr.Item{}, 0, api.ErrForm)
			continue
		}
		for n := range len(whole) {
			wantGet(t, whole[:n], repr.Item{}, 0, api.ErrCut)
		}
		wantGet(t, whole, x, len(whole), api.OK)
		wantGet(t, whole+"\xff", x, len(whole), api.OK)
	}
}

func TestP5_3GetWrong(t *testing.T) {
	long := "\x7f\x82\x1f" + strings.Repeat("a", most+1)
	for _, x := range []struct {
		b    string
		want api.Errno
	}{
		{"", api.ErrCut},
		{"\x80", api.ErrForm}, {"\x80\x00", api.ErrForm}, {"\x80\x82", api.ErrForm},
		// The number.
		{"\xff", api.ErrCut}, {"\x7f", api.ErrCut}, {"\x3f", api.ErrCut}, {"\x1f", api.ErrCut}, {"\x0f", api.ErrCut},
		{"\xff\x80\x80\x80\x80", api.ErrCut}, {"\x3f\xff\xff\xff\xff", api.ErrCut},
		{"\xff\x80\x80\x80\x80\x80", api.ErrRange}, {"\x0f\x80\x80\x80\x80\x80\x00\x00", api.ErrRange},
		{"\xff\x81\xff\xff\x7f", api.ErrRange}, {"\x7f\xc1\xff\xff\x7f\x00", api.ErrRange}, {"\x3f\xe1\xff\xff\x7f", api.ErrRange},
		{"\x1f\xf1\xff\xff\x7f\x00", api.ErrRange}, {"\x0f\xf1\xff\xff\x7f\x00", api.ErrRange},
		// The number ahead of the texts.
		{"\x0f\xf1\xff\xff\x7f\x81\x00", api.ErrRange}, {"\x7f\x80", api.ErrCut},
		// The name.
		{"\x40", api.ErrCut}, {"\x00", api.ErrCut}, {"\x10", api.ErrCut}, {"\x40\x01", api.ErrCut}, {"\x00\x05abc", api.ErrCut},
		{"\x10\x7f", api.ErrCut}, {"\x10\xff\xff\xff\xff\xff\x7f", api.ErrRange}, {"\x40\x7f\x82\x1f", api.ErrLong}, {"\x40\x81\x00", api.ErrForm},
		{"\x40" + long + "\x00", api.ErrLong},
		// The value.
		{"\x41", api.ErrCut}, {"\x04", api.ErrCut}, {"\x14", api.ErrCut}, {"\x04\x05abc", api.ErrCut}, {"\x04\x81\x00", api.ErrForm},
		{"\x04\x7f\x82\x1f", api.ErrLong}, {"\x04\xff\xff\xff\xff\xff\x7f", api.ErrRange}, {"\x04" + long, api.ErrLong},
		{"\x40\x01a", api.ErrCut}, {"\x40\x01a\x01", api.ErrCut}, {"\x40\x01a\x81\x00", api.ErrForm}, {"\x40\x01a\x7f\x82\x1f", api.ErrLong},
		{"\x40\x01a\xff\xff\xff\xff\xff\x7f", api.ErrRange}, {"\x10\x01a" + long, api.ErrLong},
		// The name ahead of the value.
		{"\x40\x81\x00\x7f\x82\x1f", api.ErrForm}, {"\x40\x81\x00\x05a", api.ErrForm}, {"\x40\x7f\x82\x1f\x81\x00", api.ErrLong},
		{"\x00" + long + "\x81\x00", api.ErrLong}, {"\x00\xff\xff\xff\xff\xff\x7f\x81\x00", api.ErrRange},
		// What is too short is told first where it stands first.
		{"\x00\x05abc\x81", api.ErrCut}, {"\x00\x05abcd", api.ErrCut},
	} {
		wantGet(t, x.b, repr.Item{}, 0, x.want)
	}
	if x, n, e := repr.Get(nil); x != (repr.Item{}) || n != 0 || e != api.ErrCut {
		t.Errorf("Get(nil) = %s, %d, %d", show(x), n, e)
	}
}

// randomBytes mixes first bytes, lengths, codes and bytes of any kind, so that what comes out is often nearly an item.
func randomBytes(r *rand.Rand) string {
	var b []byte
	for range r.Intn(6) {
		switch r.Intn(6) {
		case 0:
			b = append(b, byte(r.Intn(256)))
		case 1:
			b = append(b, []byte{0x00, 0x10, 0x20, 0x40, 0x80, 0x0f, 0x1f, 0x3f, 0x7f, 0xff}[r.Intn(10)])
		case 2:
			b = append(b, textBytes(strings.Repeat("0", r.Intn(9)))...)
		case 3:
			b = append(b, codedText(string([]byte{byte(r.Intn(256))}))...)
		case 4:
			b = append(b, 0x80|byte(r.Intn(4)), byte(r.Intn(256)), 0xff)
		case 5:
			b = append(b, byte(r.Intn(5)), byte(r.Intn(256)), byte(r.Intn(256)))
		}
	}
	return string(b)
}

func TestP5_3GetIsAsTheModel(t *testing.T) {
	hold := func(b string) {
		t.Helper()
		x, n, e := modelItem(b)
		wantGet(t, b, x, n, e)
	}
	for x := range 256 {
		for y := range 256 {
			hold(string([]byte{byte(x), byte(y)}))
		}
	}
	r := rand.New(rand.NewSource(5))
	for range 50000 {
		hold(randomBytes(r))
	}
}

func TestP5_3AllIsAsTheModel(t *testing.T) {
	r := rand.New(rand.NewSource(53))
	for range 30000 {
		b := randomBytes(r) + randomBytes(r)
		var want []repr.Item
		wantE := api.OK
		for at := 0; at < len(b) && wantE == api.OK; {
			x, n, e := modelItem(b[at:])
			want, at, wantE = append(want, x), at+n, e
		}
		if wantE != api.OK {
			want = nil
		}
		wantAll(t, b, want, wantE)
	}
}

func TestP5_3AllOfNothing(t *testing.T) {
	wantAll(t, "", nil, api.OK)
	if l, e := repr.All(nil); len(l) != 0 || e != api.OK {
		t.Errorf("All(nil): %d items, %d", len(l), e)
	}
}

func TestP5_3AllOneBehindTheOther(t *testing.T) {
	wantAll(t, "\x82\x86\x84\x41\x8c\xf1\xe3\xc2\xe5\xf2\x3a\x6b\xa0\xab\x90\xf4\xff", []repr.Item{
		{Kind: repr.Indexed, Index: 2}, {Kind: repr.Indexed, Index: 6}, {Kind: repr.Indexed, Index: 4},
		{Kind: repr.Adding, Index: 1, Value: "www.example.com"},
	}, api.OK)
	all := items()
	whole, ends := "", []int{}
	for _, x := range all[:400] {
		whole += itemBytes(x)
		ends = append(ends, len(whole))
	}
	wantAll(t, whole, all[:400], api.OK)
	// With the last one cut off.
	short := []repr.Item{{Kind: repr.Resize, Index: 31}, {Kind: repr.Plain, Name: "ab", Value: "302"}, {Kind: repr.Indexed, Index: 62}, {Kind: repr.Never, Index: 16, Value: "<>"}}
	for count := range short {
		whole, last := "", 0
		for _, x := range short[:count+1] {
			last = len(whole)
			whole += itemBytes(x)
		}
		wantAll(t, whole, short[:count+1], api.OK)
		wantAll(t, whole[:last], short[:count], api.OK)
		for n := last + 1; n < len(whole); n++ {
			wantAll(t, whole[:n], nil, api.ErrCut)
		}
	}
	for i := range 40 {
		wantAll(t, whole[:ends[i]], all[:i+1], api.OK)
		if i > 0 && ends[i]-ends[i-1] > 1 {
			wantAll(t, whole[:ends[i]-1], nil, api.ErrCut)
		}
	}
}

// The first one that is wrong tells the error, not the worst one, nor the last.
func TestP5_3AllTellsTheFirstError(t *testing.T) {
	wrong := map[string]api.Errno{
		"\x80": api.ErrForm, "\x04\x81\x00": api.ErrForm, "\x04\x7f\x82\x1f": api.ErrLong, "\xff\xff\xff\xff\xff\x7f": api.ErrRange,
	}
	for a, want := range wrong {
		for b := range wrong {
			for _, ahead := range []string{"", "\x82", "\x82\x20\x40\x01a\x01b", strings.Repeat("\x82", 1000)} {
				wantAll(t, ahead+a, nil, want)
				wantAll(t, ahead+a+"\x82", nil, want)
				wantAll(t, ahead+a+b, nil, want)
			}
		}
		wantAll(t, a+"\x40", nil, want)
	}
	wantAll(t, "\x82\x40", nil, api.ErrCut)
	wantAll(t, "\x82\x82\xff", nil, api.ErrCut)
}

func TestP5_3AllOfManyItems(t *testing.T) {
	x := repr.Item{Kind: repr.Never, Index: 16, Value: "www.example.com"}
	l, e := repr.All([]byte(strings.Repeat(itemBytes(x), 100000)))
	if len(l) != 100000 || e != api.OK {
		t.Fatalf("%d items, %d", len(l), e)
	}
	for i := range l {
		if l[i] != x {
			t.Fatalf("%d: %s", i, show(l[i]))
		}
	}
}

func TestP5_4WhatIsPutIsGot(t *testing.T) {
	for _, x := range items() {
		b, e := repr.Put(x)
		if e != api.OK {
			t.Fatalf("Put(%s): %d", show(x), e)
		}
		for _, more := range behind() {
			wantGet(t, string(b)+more, x, len(b), api.OK)
		}
		wantGet(t, string(b[:len(b)-1]), repr.Item{}, 0, api.ErrCut)
		wantAll(t, string(b)+string(b), []repr.Item{x, x}, api.OK)
	}
}

func TestP5_4TextsThatArePutAreGot(t *testing.T) {
	for _, s := range fitting() {
		b := string(repr.Text(s))
		for _, more := range behind() {
			wantGetText(t, b+more, s, len(b), api.OK)
		}
		for _, kind := range []uint8{repr.Adding, repr.Plain, repr.Never} {
			for _, x := range []repr.Item{{Kind: kind, Name: s}, {Kind: kind, Value: s}, {Kind: kind, Name: s, Value: s}, {Kind: kind, Index: 15, Value: s}} {
				b, e := repr.Put(x)
				if e != api.OK {
					t.Fatalf("Put(%s): %d", show(x), e)
				}
				wantGet(t, string(b)+"\xff", x, len(b), api.OK)
			}
		}
	}
}

func TestP5_4NoTextsBytesAreMoreThanItAndItsLengths(t *testing.T) {
	for _, s := range texts() {
		if n := len(repr.Text(s)); n > prefint.Size(7, len(s))+len(s) {
			t.Errorf("Text(%s) has %d bytes", short(s), n)
		}
	}
	r := rand.New(rand.NewSource(54))
	for range 3000 {
		b := make([]byte, r.Intn(300))
		for i := range b {
			b[i] = byte(r.Intn(256) & r.Intn(256))
		}
		wantText(t, string(b), textBytes(string(b)))
		if n := len(repr.Text(string(b))); n > prefint.Size(7, len(b))+len(b) {
			t.Errorf("Text(%x) has %d bytes", b, n)
		}
	}
}

// spoil writes over all that an answer's bytes have, their spare room too.
func spoil(b []byte) {
	b = b[:cap(b)]
	for i := range b {
		b[i] ^= 0xff
	}
}

func TestP5_2AnswersAreNewMemory(t *testing.T) {
	for _, s := range someTexts() {
		b := repr.Text(s)
		kept := bytes.Clone(b)
		spoil(repr.Text(s))
		if !bytes.Equal(b, kept) {
			t.Errorf("two answers of Text(%s) share their memory", short(s))
		}
		spoil(b)
		wantText(t, s, string(kept))
	}
	for _, x := range items()[:200] {
		b, _ := repr.Put(x)
		kept := bytes.Clone(b)
		other, _ := repr.Put(x)
		spoil(other)
		if !bytes.Equal(b, kept) {
			t.Errorf("two answers of Put(%s) share their memory", show(x))
		}
		spoil(b)
		wantPut(t, x, string(kept))
	}
}

// The room behind what came in is not written to; what was read stays, whatever becomes of what came in.
func TestP5_3AnswersAreNewMemory(t *testing.T) {
	x := repr.Item{Kind: repr.Adding, Name: "custom-key", Value: "\x00\x01\x02"}
	whole := []byte(itemBytes(x) + itemBytes(x) + "behind")
	b := whole[:len(whole)-len("behind")]
	got, _, _ := repr.Get(b)
	s, _, _ := repr.GetText(b[1:])
	l, _ := repr.All(b)
	other, _ := repr.All(b)
	if string(whole[len(b):]) != "behind" {
		t.Error("what stands behind has changed")
	}
	spoil(whole)
	if got != x || s != x.Name || !slices.Equal(l, []repr.Item{x, x}) {
		t.Error("what was read has changed with what it was read from")
	}
	clear(other[:cap(other)])
	if !slices.Equal(l, []repr.Item{x, x}) {
		t.Error("two answers share their memory")
	}
	for _, y := range l[len(l):cap(l)] {
		if y != (repr.Item{}) {
			t.Error("the spare room holds something")
		}
	}
}
