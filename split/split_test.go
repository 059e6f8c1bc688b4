package split_test

import (
	"bytes"
	"math"
	"slices"
	"strconv"
	"strings"
	"testing"

	"footman/api"
	"footman/fhead"
	"footman/split"
)

const (
	preface     = "PRI * HTTP/2.0\r\n\r\nSM\r\n\r\n"
	prefaceSize = 24
	headSize    = 9
	mostLen     = 16384
	greatestLen = 16777215 // that three bytes can tell
)

var (
	fresh   = split.State{}
	greeted = split.State{Got: prefaceSize}
	dead    = split.State{Dead: true}
)

// A frame of no bytes, of one, and of more, as their bytes.
const (
	none = "\x00\x00\x00\x04\x01\x00\x00\x00\x00"
	one  = "\x00\x00\x01\x00\x00\x00\x00\x00\x01x"
	five = "\x00\x00\x05\x01\x05\x00\x00\x00\x03abcde"
)

var (
	noneRaw = split.Raw{Head: fhead.Head{Type: 4, Flags: 1}}
	oneRaw  = split.Raw{Head: fhead.Head{Len: 1, Stream: 1}, Data: "x"}
	fiveRaw = split.Raw{Head: fhead.Head{Len: 5, Type: 1, Flags: 5, Stream: 3}, Data: "abcde"}
)

// header tells a head's bytes by division, of some type, flags and stream.
func header(length int) string {
	return string([]byte{byte(length / 65536), byte(length / 256 % 256), byte(length % 256), 9, 0xa5, 0x12, 0x34, 0x56, 0x78})
}

func headerRaw(length int) fhead.Head {
	return fhead.Head{Len: length, Type: 9, Flags: 0xa5, Stream: 0x12345678}
}

// payload is n bytes that differ from each other.
func payload(n int) string {
	b := make([]byte, n)
	for i := range b {
		b[i] = byte(i*7 + i/256)
	}
	return string(b)
}

func whole(length int) string { return header(length) + payload(length) }

// holding is a state behind the preface.
func holding(buf string) split.State { return split.State{Got: prefaceSize, Buf: buf} }

func show(st split.State) string {
	s := "{" + strconv.Itoa(st.Got) + " " + strconv.Itoa(len(st.Buf)) + " bytes " + strconv.Quote(st.Buf[:min(len(st.Buf), 24)])
	if st.Dead {
		s += " dead"
	}
	return s + "}"
}

func showAll(l []split.Raw) string {
	s := "["
	for _, r := range l {
		h := r.Head
		s += " {" + strconv.Itoa(h.Len) + " " + strconv.Itoa(int(h.Type)) + " " + strconv.Itoa(int(h.Flags)) + " " + strconv.Itoa(h.Stream) + " " + strconv.Itoa(len(r.Data)) + " bytes " + strconv.Quote(r.Data[:min(len(r.Data), 12)]) + "}"
	}
	return s + " ]"
}

// model takes one byte after another, as the document tells it.
type model struct {
	got  int
	head []byte
	data []byte
	dead bool
}

func modelOf(st split.State) *model {
	n := min(len(st.Buf), headSize)
	return &model{got: st.Got, head: []byte(st.Buf[:n]), data: []byte(st.Buf[n:]), dead: st.Dead}
}

func (m *model) state() split.State {
	if m.dead {
		return dead
	}
	return split.State{Got: m.got, Buf: string(m.head) + string(m.data)}
}

func (m *model) length() int {
	return 65536*int(m.head[0]) + 256*int(m.head[1]) + int(m.head[2])
}

func (m *model) take(c byte) ([]split.Raw, api.Code) {
	if m.got < prefaceSize {
		if c != preface[m.got] {
			m.dead = true
			return nil, api.ProtocolError
		}
		m.got++
		return nil, api.NoError
	}
	if len(m.head) < headSize {
		m.head = append(m.head, c)
		if len(m.head) < headSize {
			return nil, api.NoError
		}
	} else {
		m.data = append(m.data, c)
	}
	if m.length() > mostLen {
		m.dead = true
		return nil, api.SizeError
	}
	if len(m.data) < m.length() {
		return nil, api.NoError
	}
	h := fhead.Head{Len: m.length(), Type: m.head[3], Flags: m.head[4], Stream: 16777216*int(m.head[5]%128) + 65536*int(m.head[6]) + 256*int(m.head[7]) + int(m.head[8])}
	r := split.Raw{Head: h, Data: string(m.data)}
	m.head, m.data = nil, nil
	return []split.Raw{r}, api.NoError
}

// modelFeed is what Feed must answer of a right state that is not Dead.
func modelFeed(st split.State, b string) (split.State, []split.Raw, api.Code) {
	m := modelOf(st)
	var all []split.Raw
	for i := range len(b) {
		l, code := m.take(b[i])
		all = append(all, l...)
		if code != api.NoError {
			return m.state(), all, code
		}
	}
	return m.state(), all, api.NoError
}

// feed also holds what is so of every answer: that the argument stays as it is, with what stands in its room behind; that nothing answered changes with it; and that Check takes what is left.
func feed(t *testing.T, st split.State, b string) (split.State, []split.Raw, api.Code) {
	t.Helper()
	came := []byte(b + "room behind")
	got, l, code := split.Feed(st, came[:len(b)])
	if string(came) != b+"room behind" {
		t.Errorf("Feed(%s) changed the %d bytes that came", show(st), len(b))
	}
	wasGot, was := strings.Clone(got.Buf), make([]string, len(l))
	for i, r := range l {
		was[i] = strings.Clone(r.Data)
	}
	for i := range came {
		came[i] ^= 0xff
	}
	if got.Buf != wasGot {
		t.Errorf("Feed(%s) of %d bytes: the state changes with the bytes that came", show(st), len(b))
	}
	for i, r := range l {
		if r.Data != was[i] {
			t.Errorf("Feed(%s) of %d bytes: frame %d changes with the bytes that came", show(st), len(b), i)
		}
	}
	if split.Check(st) == api.OK && split.Check(got) != api.OK {
		t.Errorf("Feed(%s) of %d bytes left %s, which Check refuses", show(st), len(b), show(got))
	}
	return got, l, code
}

func wantFeed(t *testing.T, st split.State, b string, wantState split.State, want []split.Raw, wantCode api.Code) {
	t.Helper()
	got, l, code := feed(t, st, b)
	if got != wantState || !slices.Equal(l, want) || code != wantCode {
		t.Errorf("Feed(%s, %d bytes %.40q) = %s, %s, %d, want %s, %s, %d", show(st), len(b), b, show(got), showAll(l), code, show(wantState), showAll(want), wantCode)
	}
}

// wantAsModel holds Feed against the model, of a right state that is not Dead.
func wantAsModel(t *testing.T, st split.State, b string) {
	t.Helper()
	wantState, want, code := modelFeed(st, b)
	wantFeed(t, st, b, wantState, want, code)
}

// inPieces feeds pieces one behind the other, up to the first fault.
func inPieces(t *testing.T, st split.State, pieces ...string) (split.State, []split.Raw, api.Code) {
	t.Helper()
	var all []split.Raw
	for _, b := range pieces {
		got, l, code := feed(t, st, b)
		st, all = got, append(all, l...)
		if code != api.NoError {
			return st, all, code
		}
	}
	return st, all, api.NoError
}

func bytewise(s string) []string {
	var l []string
	for i := range len(s) {
		l = append(l, s[i:i+1])
	}
	return l
}

// wantPieces holds that pieces tell all together what the model tells of them at once.
func wantPieces(t *testing.T, st split.State, pieces ...string) {
	t.Helper()
	wantState, want, wantCode := modelFeed(st, strings.Join(pieces, ""))
	got, l, code := inPieces(t, st, pieces...)
	if got != wantState || !slices.Equal(l, want) || code != wantCode {
		t.Errorf("Feed(%s) of %d pieces = %s, %s, %d, want %s, %s, %d", show(st), len(pieces), show(got), showAll(l), code, show(wantState), showAll(want), wantCode)
	}
}

func wantCheck(t *testing.T, st split.State, want api.Errno) {
	t.Helper()
	if e := split.Check(st); e != want {
		t.Errorf("Check(%s) = %d, want %d", show(st), e, want)
	}
}

func wantLeft(t *testing.T, st split.State, want int) {
	t.Helper()
	if n := split.Left(st); n != want {
		t.Errorf("Left(%s) = %d, want %d", show(st), n, want)
	}
}

// refused are states of each kind that Check refuses, with its error.
func refused() []struct {
	st split.State
	e  api.Errno
} {
	type row = struct {
		st split.State
		e  api.Errno
	}
	return []row{
		{split.State{Dead: true, Got: 1}, api.ErrForm},
		{split.State{Dead: true, Got: 24}, api.ErrForm},
		{split.State{Dead: true, Got: -1}, api.ErrForm},
		{split.State{Dead: true, Got: 25}, api.ErrForm},
		{split.State{Dead: true, Buf: "x"}, api.ErrForm},
		{split.State{Dead: true, Buf: "\x00"}, api.ErrForm},
		{split.State{Dead: true, Buf: one}, api.ErrForm},
		{split.State{Dead: true, Got: 24, Buf: "x"}, api.ErrForm},
		{split.State{Dead: true, Got: 25, Buf: one}, api.ErrForm},
		{split.State{Dead: true, Got: 24, Buf: header(mostLen + 1)}, api.ErrForm},
		{split.State{Got: -1}, api.ErrRange},
		{split.State{Got: 25}, api.ErrRange},
		{split.State{Got: math.MinInt}, api.ErrRange},
		{split.State{Got: math.MaxInt}, api.ErrRange},
		{split.State{Got: -24}, api.ErrRange},
		{split.State{Got: 1<<32 + 1}, api.ErrRange},
		{split.State{Got: 1<<32 + 24}, api.ErrRange},
		{split.State{Got: -1, Buf: "x"}, api.ErrRange},
		{split.State{Got: 25, Buf: "x"}, api.ErrRange},
		{split.State{Got: -1, Buf: one}, api.ErrRange},
		{split.State{Got: 25, Buf: header(greatestLen)}, api.ErrRange},
		{split.State{Got: 0, Buf: "x"}, api.ErrOrder},
		{split.State{Got: 1, Buf: "\x00"}, api.ErrOrder},
		{split.State{Got: 23, Buf: "x"}, api.ErrOrder},
		{split.State{Got: 0, Buf: "P"}, api.ErrOrder},
		{split.State{Got: 23, Buf: one}, api.ErrOrder},
		{split.State{Got: 23, Buf: header(mostLen + 1)}, api.ErrOrder},
		{holding(none), api.ErrLong},
		{holding(one), api.ErrLong},
		{holding(one + "y"), api.ErrLong},
		{holding(none + none), api.ErrLong},
		{holding(header(mostLen + 1)), api.ErrLong},
		{holding(header(greatestLen)), api.ErrLong},
		{holding(whole(mostLen)), api.ErrLong},
		{holding(whole(mostLen + 1)), api.ErrLong},
		{holding(whole(greatestLen)), api.ErrLong},
		{holding(whole(mostLen + 1)[:mostLen]), api.ErrLong},
	}
}

func TestP10_1PrefaceIsTheTwentyFourBytes(t *testing.T) {
	if split.Preface != preface || len(split.Preface) != prefaceSize {
		t.Errorf("Preface = %q", split.Preface)
	}
}

func TestP10_1CheckOfDead(t *testing.T) {
	wantCheck(t, dead, api.OK)
	for _, got := range []int{-1, 1, 2, 23, 24, 25, math.MinInt, math.MaxInt} {
		wantCheck(t, split.State{Dead: true, Got: got}, api.ErrForm)
		wantCheck(t, split.State{Dead: true, Got: got, Buf: "x"}, api.ErrForm)
	}
	for _, buf := range []string{"x", "\x00", "P", preface, none, one, header(mostLen), header(mostLen + 1)} {
		wantCheck(t, split.State{Dead: true, Buf: buf}, api.ErrForm)
	}
}

func TestP10_1CheckOfGot(t *testing.T) {
	for got := -30; got <= 60; got++ {
		alone, with := api.OK, api.ErrOrder
		switch {
		case got < 0 || got > 24:
			alone, with = api.ErrRange, api.ErrRange
		case got == 24:
			with = api.OK
		}
		wantCheck(t, split.State{Got: got}, alone)
		for _, buf := range []string{"x", "\x00", "P", "\x00\x00\x00\x00\x00\x00\x00\x00"} {
			wantCheck(t, split.State{Got: got, Buf: buf}, with)
		}
	}
}

func TestP10_1CheckOfBufOfEachLength(t *testing.T) {
	for _, length := range []int{0, 1, 2, 5, 8, 9, 10, 11, 12, 300, mostLen} {
		s := whole(length) + "and more behind it"
		for n := range min(len(s), 41) {
			want := api.OK
			if n >= headSize+length {
				want = api.ErrLong
			}
			wantCheck(t, holding(s[:n]), want)
		}
	}
}

func TestP10_1CheckOfHeadsThatTellMoreThanMayBe(t *testing.T) {
	for _, length := range []int{mostLen + 1, mostLen + 2, 16640, 20000, 32768, 65535, 65536, 65537, 65536 + 16384, 1 << 23, greatestLen - 1, greatestLen} {
		s := whole(length)
		for n := range headSize {
			wantCheck(t, holding(s[:n]), api.OK)
		}
		for _, n := range []int{headSize, headSize + 1, headSize + mostLen, len(s) - 1, len(s)} {
			wantCheck(t, holding(s[:n]), api.ErrLong)
		}
	}
}

func TestP10_1CheckAtTheMostLen(t *testing.T) {
	s := whole(mostLen)
	for _, n := range []int{headSize, headSize + 1, headSize + mostLen - 2, headSize + mostLen - 1} {
		wantCheck(t, holding(s[:n]), api.OK)
	}
	wantCheck(t, holding(s), api.ErrLong)
	wantCheck(t, holding(s+"x"), api.ErrLong)
}

func TestP10_1CheckTellsTheFirstError(t *testing.T) {
	for _, x := range refused() {
		wantCheck(t, x.st, x.e)
	}
}

func TestP10_1LeftOfPreface(t *testing.T) {
	for got := range prefaceSize {
		wantLeft(t, split.State{Got: got}, prefaceSize-got)
	}
	wantLeft(t, greeted, headSize)
}

func TestP10_1LeftOfHead(t *testing.T) {
	for _, s := range []string{header(0), header(5), header(mostLen), header(mostLen + 1), header(greatestLen), "\x00\x00\x00\x00\x00\x00\x00\x00\x00", preface} {
		for n := range headSize {
			wantLeft(t, holding(s[:n]), headSize-n)
		}
	}
}

func TestP10_1LeftOfFrame(t *testing.T) {
	for _, length := range []int{1, 2, 5, 255, 256, 257, 4095, mostLen - 1, mostLen} {
		s := whole(length)
		for n := range length {
			wantLeft(t, holding(s[:headSize+n]), length-n)
		}
	}
}

func TestP10_1LeftOfDeadAndRefused(t *testing.T) {
	wantLeft(t, dead, 0)
	for _, x := range refused() {
		wantLeft(t, x.st, 0)
	}
}

// So many bytes are lacking: behind fewer nothing new is told, behind all it is.
func TestP10_1LeftIsWhatFeedWaitsFor(t *testing.T) {
	s := preface + none + one + five + whole(300)
	st := fresh
	for s != "" {
		n := split.Left(st)
		if n < 1 || n > len(s) {
			t.Fatalf("Left(%s) = %d", show(st), n)
		}
		x, l, code := feed(t, st, s[:n-1])
		if len(l) != 0 || code != api.NoError || split.Left(x) != 1 {
			t.Fatalf("one short: %s, %s, %d", show(x), showAll(l), code)
		}
		st, _, _ = feed(t, x, s[n-1:n])
		s = s[n:]
	}
	if st != greeted {
		t.Errorf("left %s", show(st))
	}
}

func TestP10_1Same(t *testing.T) {
	states := []split.State{
		fresh, dead, greeted, {Got: 1}, {Got: 23}, {Got: 25}, {Got: -1}, {Got: 1 << 32}, {Dead: true, Got: 1}, {Dead: true, Got: 24},
		{Buf: "x"}, {Buf: "y"}, {Buf: "xx"}, {Buf: "X"}, {Buf: "\x00"}, {Dead: true, Buf: "x"}, {Got: 1, Buf: "x"}, {Got: 1, Dead: true, Buf: "x"},
		holding("x"), holding("\x00"), holding("\x00\x00"), holding(whole(300)), holding(whole(300) + "x"), holding(whole(301)),
	}
	for i, a := range states {
		for j, b := range states {
			b.Buf = strings.Clone(b.Buf)
			if split.Same(a, b) != (i == j) {
				t.Errorf("Same(%s, %s) = %t", show(a), show(b), i != j)
			}
		}
	}
}

func TestP10_2ExampleOfTheDocument(t *testing.T) {
	wantFeed(t, fresh, preface+"\x00\x00\x00\x04\x00\x00\x00\x00\x00", greeted, []split.Raw{{Head: fhead.Head{Type: api.Settings}}}, api.NoError)
}

func TestP10_2PrefaceAtOnce(t *testing.T) {
	wantFeed(t, fresh, preface, greeted, nil, api.NoError)
	wantFeed(t, fresh, preface+none, greeted, []split.Raw{noneRaw}, api.NoError)
	wantFeed(t, fresh, preface+"\x00", holding("\x00"), nil, api.NoError)
}

func TestP10_2PrefaceByteByByte(t *testing.T) {
	st := fresh
	for i := range prefaceSize {
		wantFeed(t, st, preface[i:i+1], split.State{Got: i + 1}, nil, api.NoError)
		st, _, _ = feed(t, st, preface[i:i+1])
	}
	if st != greeted {
		t.Errorf("left %s", show(st))
	}
}

func TestP10_2PrefaceInTwoPieces(t *testing.T) {
	for i := range prefaceSize + 1 {
		wantFeed(t, fresh, preface[:i], split.State{Got: i}, nil, api.NoError)
		wantFeed(t, split.State{Got: i}, preface[i:], greeted, nil, api.NoError)
		wantFeed(t, split.State{Got: i}, preface[i:]+one+"\x00\x00", holding("\x00\x00"), []split.Raw{oneRaw}, api.NoError)
	}
}

func TestP10_2EachByteOfPrefaceAnotherOne(t *testing.T) {
	for i := range prefaceSize {
		for c := range 256 {
			if byte(c) == preface[i] {
				continue
			}
			wrong := preface[:i] + string([]byte{byte(c)}) + preface[i+1:]
			wantFeed(t, fresh, wrong, dead, nil, api.ProtocolError)
			wantFeed(t, fresh, wrong[:i+1], dead, nil, api.ProtocolError)
			wantFeed(t, split.State{Got: i}, wrong[i:]+none, dead, nil, api.ProtocolError)
			wantFeed(t, split.State{Got: i}, wrong[i:i+1], dead, nil, api.ProtocolError)
			wantFeed(t, split.State{Got: i / 2}, wrong[i/2:], dead, nil, api.ProtocolError)
		}
	}
}

func TestP10_2PrefaceTwiceOrLackingIsNone(t *testing.T) {
	wantFeed(t, fresh, none, dead, nil, api.ProtocolError)
	wantFeed(t, fresh, preface[1:], dead, nil, api.ProtocolError)
	wantFeed(t, split.State{Got: 1}, preface, dead, nil, api.ProtocolError)
	wantFeed(t, split.State{Got: 23}, preface, dead, nil, api.ProtocolError)
	wantFeed(t, fresh, strings.ToLower(preface), dead, nil, api.ProtocolError)
	wantFeed(t, fresh, "GET / HTTP/1.1\r\n\r\n", dead, nil, api.ProtocolError)
	// "PRI" tells a length above the most.
	wantFeed(t, greeted, preface, dead, nil, api.SizeError)
	wantFeed(t, greeted, preface[:headSize-1], holding(preface[:headSize-1]), nil, api.NoError)
}

func TestP10_2NoBytes(t *testing.T) {
	states := []split.State{fresh, {Got: 1}, {Got: 23}, greeted, holding("\x00"), holding(header(0)[:8]), holding(header(1)), holding(whole(mostLen)[:mostLen])}
	for _, st := range states {
		for _, b := range [][]byte{nil, {}, []byte(none)[:0]} {
			got, l, code := split.Feed(st, b)
			if got != st || len(l) != 0 || code != api.NoError {
				t.Errorf("Feed(%s, no bytes) = %s, %s, %d", show(st), show(got), showAll(l), code)
			}
		}
	}
}

func TestP10_2FramesOfEachSize(t *testing.T) {
	for _, length := range []int{0, 1, 2, 5, 8, 9, 10, 24, 33, 127, 128, 255, 256, 257, 1000, 4096, 16383, mostLen} {
		r := split.Raw{Head: headerRaw(length), Data: payload(length)}
		s := whole(length)
		wantFeed(t, greeted, s, greeted, []split.Raw{r}, api.NoError)
		wantFeed(t, fresh, preface+s+"\x00", holding("\x00"), []split.Raw{r}, api.NoError)
		wantFeed(t, greeted, s+s+none+s, greeted, []split.Raw{r, r, noneRaw, r}, api.NoError)
		wantFeed(t, greeted, s[:len(s)-1], holding(s[:len(s)-1]), nil, api.NoError)
		wantFeed(t, holding(s[:len(s)-1]), s[len(s)-1:], greeted, []split.Raw{r}, api.NoError)
	}
}

func TestP10_2ManyInAPiece(t *testing.T) {
	wantFeed(t, greeted, none+one+five, greeted, []split.Raw{noneRaw, oneRaw, fiveRaw}, api.NoError)
	wantFeed(t, greeted, five+five+none+none+one, greeted, []split.Raw{fiveRaw, fiveRaw, noneRaw, noneRaw, oneRaw}, api.NoError)
	var want []split.Raw
	for range 5000 {
		want = append(want, noneRaw, fiveRaw)
	}
	wantFeed(t, fresh, preface+strings.Repeat(none+five, 5000)+"\x00\x40", holding("\x00\x40"), want, api.NoError)
}

func TestP10_2FramesCutAtEachPlace(t *testing.T) {
	for _, x := range []struct {
		s string
		r split.Raw
	}{{none, noneRaw}, {one, oneRaw}, {five, fiveRaw}, {whole(40), split.Raw{Head: headerRaw(40), Data: payload(40)}}} {
		for i := range len(x.s) {
			wantFeed(t, greeted, x.s[:i], holding(x.s[:i]), nil, api.NoError)
			wantFeed(t, holding(x.s[:i]), x.s[i:], greeted, []split.Raw{x.r}, api.NoError)
			wantFeed(t, greeted, one+x.s[:i], holding(x.s[:i]), []split.Raw{oneRaw}, api.NoError)
		}
	}
}

func TestP10_2BytesFillAFrameAndBeginTheNextOne(t *testing.T) {
	for i := range len(five) {
		for j := range len(five) {
			wantFeed(t, holding(five[:i]), five[i:]+five[:j], holding(five[:j]), []split.Raw{fiveRaw}, api.NoError)
			wantFeed(t, holding(five[:i]), five[i:]+none+one+five[:j], holding(five[:j]), []split.Raw{fiveRaw, noneRaw, oneRaw}, api.NoError)
		}
	}
}

// Whatever type, flags and stream a head tells, split cuts it: what stands there is for those above.
func TestP10_2AnyTypeAndFlags(t *testing.T) {
	for n := range 256 {
		c := byte(n)
		s := string([]byte{0, 0, 2, c, 255 - c, c & 0x7f, c, 0, 255 - c, c, 255})
		want := split.Raw{Head: fhead.Head{Len: 2, Type: c, Flags: 255 - c, Stream: 16777216*(n%128) + 65536*n + 255 - n}, Data: string([]byte{c, 255})}
		wantFeed(t, greeted, s, greeted, []split.Raw{want}, api.NoError)
	}
}

func TestP10_2HighestBitOfStream(t *testing.T) {
	s := "\x00\x00\x01\x00\x00\x80\x00\x00\x01x"
	wantFeed(t, greeted, s, greeted, []split.Raw{oneRaw}, api.NoError)
	wantFeed(t, greeted, s[:9], holding(s[:9]), nil, api.NoError)
	wantFeed(t, holding(s[:9]), "x", greeted, []split.Raw{oneRaw}, api.NoError)
	wantFeed(t, greeted, "\x00\x00\x00\x07\x00\xff\xff\xff\xff", greeted, []split.Raw{{Head: fhead.Head{Type: 7, Stream: 2147483647}}}, api.NoError)
	wantFeed(t, greeted, "\x00\x00\x00\x07\x00\x80\x00\x00\x00", greeted, []split.Raw{{Head: fhead.Head{Type: 7}}}, api.NoError)
}

func TestP10_2TooLongIsToldOnceTheHeadIsThere(t *testing.T) {
	for _, length := range []int{mostLen + 1, mostLen + 2, 16640, 32768, 65535, 65536, 65536 + 5, 1 << 23, greatestLen} {
		s := header(length)
		wantFeed(t, greeted, s, dead, nil, api.SizeError)
		wantFeed(t, greeted, s+payload(20), dead, nil, api.SizeError)
		wantFeed(t, fresh, preface+s, dead, nil, api.SizeError)
		for i := range headSize {
			wantFeed(t, greeted, s[:i], holding(s[:i]), nil, api.NoError)
			wantFeed(t, holding(s[:i]), s[i:], dead, nil, api.SizeError)
			wantFeed(t, holding(s[:i]), s[i:]+none, dead, nil, api.SizeError)
		}
	}
	s := whole(mostLen + 1)
	wantFeed(t, greeted, s, dead, nil, api.SizeError)
	wantFeed(t, greeted, s+none, dead, nil, api.SizeError)
}

func TestP10_2MostLenIsNotTooLong(t *testing.T) {
	s := header(mostLen)
	wantFeed(t, greeted, s, holding(s), nil, api.NoError)
	for i := range headSize {
		wantFeed(t, holding(s[:i]), s[i:], holding(s), nil, api.NoError)
	}
}

func TestP10_2FramesAheadOfAFaultAreTold(t *testing.T) {
	s := header(mostLen + 1)
	wantFeed(t, greeted, one+s, dead, []split.Raw{oneRaw}, api.SizeError)
	wantFeed(t, greeted, none+five+one+s+none+five, dead, []split.Raw{noneRaw, fiveRaw, oneRaw}, api.SizeError)
	wantFeed(t, fresh, preface+five+none+s+none, dead, []split.Raw{fiveRaw, noneRaw}, api.SizeError)
	wantFeed(t, holding(five[:11]), five[11:]+s, dead, []split.Raw{fiveRaw}, api.SizeError)
}

func TestP10_2DeadAndRefusedStatesStayAsTheyAre(t *testing.T) {
	inputs := []string{"", "x", preface, none, one, preface + none, five + five, header(mostLen + 1)}
	for _, b := range inputs {
		wantFeed(t, dead, b, dead, nil, api.NoError)
		for _, x := range refused() {
			wantFeed(t, x.st, b, x.st, nil, api.NoError)
		}
	}
	for _, x := range append(refused(), struct {
		st split.State
		e  api.Errno
	}{st: dead}) {
		if got, l, code := split.Feed(x.st, nil); got != x.st || len(l) != 0 || code != api.NoError {
			t.Errorf("Feed(%s, nil) = %s, %s, %d", show(x.st), show(got), showAll(l), code)
		}
	}
}

func TestP10_2SameBytesSameAnswer(t *testing.T) {
	s := five + none + header(300) + payload(50)
	first, l, code := split.Feed(holding(one[:9]), []byte("x"+s))
	for range 3 {
		got, again, c := split.Feed(holding(one[:9]), []byte("x"+s))
		if got != first || !slices.Equal(again, l) || c != code {
			t.Error("another answer of the same bytes")
		}
	}
}

func TestP10_2AnswersAreNewMemory(t *testing.T) {
	b := []byte(none + one + five + five[:3])
	_, a, _ := split.Feed(greeted, b)
	_, c, _ := split.Feed(greeted, b)
	for i := range a[:cap(a)] {
		a[:cap(a)][i] = split.Raw{Data: "other"}
	}
	if !slices.Equal(c, []split.Raw{noneRaw, oneRaw, fiveRaw}) {
		t.Errorf("one answer changed with another: %s", showAll(c))
	}
}

// streams are some that are right to their end, that end in the middle, and that are wrong somewhere.
func streams() []string {
	tooLong := header(mostLen + 1)
	return []string{
		preface + none + one + five,
		preface + five + none + none + one + five[:12],
		preface + none + header(30) + payload(30) + "\x00\x00",
		preface + one + tooLong + none + one,
		preface + tooLong,
		preface + five + tooLong[:8],
		preface[:17],
		preface[:10] + "x" + preface[11:] + none,
		preface[:23] + "\r" + none,
		"\x00" + preface,
		preface + "\x00\x00\x01\x00\x00\xff\xff\xff\xffx" + none,
	}
}

func TestP10_3ByteByByte(t *testing.T) {
	for _, s := range streams() {
		wantPieces(t, fresh, bytewise(s)...)
		wantPieces(t, fresh, s)
	}
}

func TestP10_3ThreePiecesCutAnywhere(t *testing.T) {
	for _, s := range streams() {
		for i := range len(s) + 1 {
			for j := i; j <= len(s); j++ {
				wantPieces(t, fresh, s[:i], s[i:j], s[j:])
			}
		}
	}
}

func TestP10_3TwoByTwoAndMore(t *testing.T) {
	for _, s := range append(streams(), preface+whole(700)+whole(mostLen)+none+whole(3)) {
		for _, n := range []int{2, 3, 5, 7, 9, 10, 24, 100} {
			var pieces []string
			for i := 0; i < len(s); i += n {
				pieces = append(pieces, s[i:min(i+n, len(s))])
			}
			wantPieces(t, fresh, pieces...)
		}
	}
}

func TestP10_3MostLenByteByByte(t *testing.T) {
	wantPieces(t, fresh, bytewise(preface+whole(mostLen)+one)...)
	wantPieces(t, fresh, bytewise(preface+five+header(mostLen+1)+none)...)
}

// Byte by byte the fault is told with the head's last byte, and not ahead.
func TestP10_3FaultIsToldWithTheLastByteOfTheHead(t *testing.T) {
	st := holding("")
	for i, b := range bytewise(header(mostLen + 1)) {
		got, l, code := feed(t, st, b)
		wantCode := api.NoError
		if i == headSize-1 {
			wantCode = api.SizeError
		}
		if code != wantCode || len(l) != 0 || got.Dead != (i == headSize-1) {
			t.Errorf("byte %d: %s, %s, %d", i, show(got), showAll(l), code)
		}
		st = got
	}
}

func TestP10_3FromAnyState(t *testing.T) {
	behind := five + none + header(20) + payload(20) + header(mostLen+1) + none
	for i := range len(five) {
		for j := range len(behind) {
			wantPieces(t, holding(five[:i]), five[i:], behind[:j], behind[j:])
		}
		wantAsModel(t, holding(five[:i]), behind)
		wantAsModel(t, holding(five[:i]), payload(60))
	}
}

// Any bytes: a short rule makes them, of few kinds, so that heads tell lengths that are often there.
func TestP10_3AnyBytes(t *testing.T) {
	n := uint32(12345)
	for range 3000 {
		var b []byte
		n = n*1664525 + 1013904223
		for range n >> 24 {
			n = n*1664525 + 1013904223
			b = append(b, byte(n>>28)/13*byte(n>>20)/16)
		}
		s := preface + string(b)
		i, j := int(n>>8)%(len(s)+1), int(n>>16)%(len(s)+1)
		i, j = min(i, j), max(i, j)
		wantPieces(t, fresh, s)
		wantPieces(t, fresh, s[:i], s[i:j], s[j:])
		wantPieces(t, fresh, bytewise(s)...)
	}
}

func TestP10_3FramesThatWerePutAreTold(t *testing.T) {
	var want []split.Raw
	s := bytes.NewBufferString(preface)
	for i := range 200 {
		length := []int{0, 1, 9, 24, 255, 256, 1000, mostLen}[i%8]
		r := split.Raw{Head: fhead.Head{Len: length, Type: uint8(i), Flags: uint8(i * 3), Stream: (i * 12345677) % 2147483648}, Data: payload(length)}
		h, e := fhead.Put(r.Head)
		if e != api.OK {
			t.Fatal(e)
		}
		s.Write(h)
		s.WriteString(r.Data)
		want = append(want, r)
	}
	wantFeed(t, fresh, s.String(), greeted, want, api.NoError)
	third := s.Len() / 3
	got, l, code := inPieces(t, fresh, s.String()[:third], s.String()[third:2*third+1], s.String()[2*third+1:])
	if got != greeted || !slices.Equal(l, want) || code != api.NoError {
		t.Errorf("in pieces: %s, %d frames, %d", show(got), len(l), code)
	}
}

func TestP10_3BehindAFaultNothingIsLookedAt(t *testing.T) {
	for _, s := range []string{"x", preface[:20] + "x", preface + header(mostLen+1), preface + five + header(greatestLen)} {
		wantState, want, wantCode := modelFeed(fresh, s)
		for _, behind := range []string{"", "x", preface, none + one, header(mostLen + 1), payload(30000), preface + preface} {
			wantFeed(t, fresh, s+behind, wantState, want, wantCode)
			wantFeed(t, wantState, behind, wantState, nil, api.NoError)
		}
	}
}
