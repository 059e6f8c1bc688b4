package henc_test

import (
	"math"
	"math/rand"
	"slices"
	"strconv"
	"strings"
	"testing"

	"footman/api"
	"footman/dyntab"
	"footman/hdec"
	"footman/henc"
	"footman/repr"
	"footman/static"
)

const (
	most    = 4096 // what a table may count, and the bytes of a text and of a block
	counted = 32   // what a field counts beside its bytes
)

// negative are numbers below 0, great ones above what a table may count.
var (
	negative = []int{-1, -2, -31, -32, -4095, -4096, -4097, math.MinInt32, math.MinInt32 - 1, -1 << 32, -1<<32 + 1, math.MinInt64, math.MinInt64 + 1, math.MinInt64 + 4096}
	great    = []int{4097, 4098, 5000, 8192, 1 << 16, 1<<16 + 100, api.MaxInt, math.MaxInt32, 1 << 32, 1<<32 + 1, 1<<32 + 100, 1<<32 + 4096, 1 << 40, math.MaxInt64 - 1, math.MaxInt64}
)

func field(name, value string) api.Field { return api.Field{Name: name, Value: value} }

func never(name, value string) api.Field { return api.Field{Name: name, Value: value, Never: true} }

// sized is a field that counts so much; what comes ahead tells it from others.
func sized(ahead string, n int) api.Field {
	return field(ahead, strings.Repeat("v", n-counted-len(ahead)))
}

func state(max, least, last int, l ...api.Field) henc.State {
	return henc.State{Table: dyntab.Table{Max: max, List: l}, Least: least, Last: last}
}

// settled is a state of which the other side need be told nothing.
func settled(max int, l ...api.Field) henc.State { return state(max, max, max, l...) }

func clone(st henc.State) henc.State {
	return state(st.Table.Max, st.Least, st.Last, append([]api.Field(nil), st.Table.List...)...)
}

func alikeTables(a, b dyntab.Table) bool { return a.Max == b.Max && slices.Equal(a.List, b.List) }

func alike(a, b henc.State) bool {
	return a.Least == b.Least && a.Last == b.Last && alikeTables(a.Table, b.Table)
}

func count(l []api.Field) int {
	n := 0
	for _, f := range l {
		n += counted + len(f.Name) + len(f.Value)
	}
	return n
}

// cut takes the oldest fields off, one by one, as long as the rest counts more than there may be.
func cut(l []api.Field, most int) []api.Field {
	l = slices.Clone(l)
	for len(l) > 0 && count(l) > most {
		l = l[:len(l)-1]
	}
	return l
}

func indexed(i int) repr.Item { return repr.Item{Kind: repr.Indexed, Index: i} }

func resize(n int) repr.Item { return repr.Item{Kind: repr.Resize, Index: n} }

func byPlace(kind uint8, i int, value string) repr.Item {
	return repr.Item{Kind: kind, Index: i, Value: value}
}

func byText(kind uint8, name, value string) repr.Item {
	return repr.Item{Kind: kind, Name: name, Value: value}
}

// bytesOf are the bytes of items, as layer 5 puts them.
func bytesOf(t *testing.T, l []repr.Item) string {
	t.Helper()
	s := ""
	for _, x := range l {
		b, e := repr.Put(x)
		if e != api.OK {
			t.Fatalf("Put(%s): %d", showItems([]repr.Item{x}), e)
		}
		s += string(b)
	}
	return s
}

// modelFind is the place of a field, and whether it stands there with its value.
func modelFind(both []api.Field, f api.Field) (int, bool) {
	whole := slices.IndexFunc(both, func(x api.Field) bool { return x.Name == f.Name && x.Value == f.Value })
	if whole >= 0 {
		return whole + 1, true
	}
	return slices.IndexFunc(both, func(x api.Field) bool { return x.Name == f.Name }) + 1, false
}

// modelItems is what Items must tell of a state that may be and fields that are not too long.
func modelItems(st henc.State, l []api.Field) (henc.State, []repr.Item) {
	var items []repr.Item
	max, had := st.Table.Max, st.Table.List
	if st.Least != max {
		items, max, had = append(items, resize(st.Least)), st.Least, cut(had, st.Least)
	}
	if st.Last != st.Least {
		items, max, had = append(items, resize(st.Last)), st.Last, cut(had, st.Last)
	}
	for _, f := range l {
		place, is := modelFind(append(static.All(), had...), f)
		x := repr.Item{Index: place, Value: f.Value}
		if place == 0 {
			x.Name = f.Name
		}
		switch small := float64(count([]api.Field{f})) <= float64(max)/2; {
		case f.Never:
			x.Kind = repr.Never
		case is:
			x = indexed(place)
		case small:
			x.Kind, had = repr.Adding, cut(slices.Concat([]api.Field{f}, had), max)
		default:
			x.Kind = repr.Plain
		}
		items = append(items, x)
	}
	return settled(max, had...), items
}

// short keeps what a failure tells short.
func short(s string) string {
	return strconv.Quote(s[:min(len(s), 16)]) + "(" + strconv.Itoa(len(s)) + ")"
}

func showList(l []api.Field) string {
	s := strconv.Itoa(len(l)) + "["
	for _, f := range l[:min(len(l), 8)] {
		s += " " + short(f.Name) + "=" + short(f.Value)
		if f.Never {
			s += " never"
		}
	}
	return s + "]"
}

func showItems(l []repr.Item) string {
	s := strconv.Itoa(len(l)) + "["
	for _, x := range l[:min(len(l), 8)] {
		s += " {" + strconv.Itoa(int(x.Kind)) + " " + strconv.Itoa(x.Index) + " " + short(x.Name) + " " + short(x.Value) + "}"
	}
	return s + "]"
}

func show(st henc.State) string {
	return "{" + strconv.Itoa(st.Table.Max) + " " + strconv.Itoa(st.Least) + " " + strconv.Itoa(st.Last) + " " + showList(st.Table.List) + "}"
}

func wantCheck(t *testing.T, st henc.State, want api.Errno) {
	t.Helper()
	kept := clone(st)
	if e := henc.Check(st); e != want || !alike(st, kept) {
		t.Errorf("Check(%s) = %d, want %d", show(kept), e, want)
	}
}

// wantLimit also holds that the argument stays as it is.
func wantLimit(t *testing.T, st henc.State, n int, want henc.State, wantE api.Errno) henc.State {
	t.Helper()
	kept := clone(st)
	left, e := henc.Limit(st, n)
	if !alike(left, want) || e != wantE {
		t.Errorf("Limit(%s, %d) = %s, %d, want %s, %d", show(kept), n, show(left), e, show(want), wantE)
	}
	if !alike(st, kept) {
		t.Errorf("Limit changed %s to %s", show(kept), show(st))
	}
	return left
}

func wantItems(t *testing.T, st henc.State, l []api.Field, want henc.State, wantX []repr.Item, wantE api.Errno) henc.State {
	t.Helper()
	kept, keptL := clone(st), slices.Clone(l)
	left, x, e := henc.Items(st, l)
	if !alike(left, want) || !slices.Equal(x, wantX) || e != wantE {
		t.Errorf("Items(%s, %s) = %s, %s, %d, want %s, %s, %d", show(kept), showList(keptL), show(left), showItems(x), e, show(want), showItems(wantX), wantE)
	}
	if !alike(st, kept) || !slices.Equal(l, keptL) {
		t.Errorf("Items changed %s or %s", show(kept), showList(keptL))
	}
	return left
}

func wantBlock(t *testing.T, st henc.State, l []api.Field, want henc.State, wantB string, wantE api.Errno) henc.State {
	t.Helper()
	kept, keptL := clone(st), slices.Clone(l)
	left, b, e := henc.Block(st, l)
	if !alike(left, want) || string(b) != wantB || e != wantE {
		t.Errorf("Block(%s, %s) = %s, %x, %d, want %s, %x, %d", show(kept), showList(keptL), show(left), b[:min(len(b), 64)], e, show(want), wantB[:min(len(wantB), 64)], wantE)
	}
	if !alike(st, kept) || !slices.Equal(l, keptL) {
		t.Errorf("Block changed %s or %s", show(kept), showList(keptL))
	}
	return left
}

// wantWritten holds that a list becomes just these items, and a block of just their bytes, if they are not too many.
func wantWritten(t *testing.T, st henc.State, l []api.Field, want henc.State, items ...repr.Item) henc.State {
	t.Helper()
	left := wantItems(t, st, l, want, items, api.OK)
	if b := bytesOf(t, items); len(b) <= most {
		wantBlock(t, st, l, want, b, api.OK)
	} else {
		wantBlock(t, st, l, st, "", api.ErrLong)
	}
	return left
}

// wantWrong holds that beside an error nothing else is told, and the state is as it was.
func wantWrong(t *testing.T, st henc.State, l []api.Field, want api.Errno) {
	t.Helper()
	wantItems(t, st, l, st, nil, want)
	wantBlock(t, st, l, st, "", want)
}

// refused are states that may not be, by their errors: where more than one would do, by the one that is named first.
func refused() map[api.Errno][]henc.State {
	m := map[api.Errno][]henc.State{
		api.ErrForm: {
			settled(most, never("a", "b")),
			settled(100, field("a", "b"), never("c", "d")),
			settled(100, never("", ""), field("a", "b")),
			// They count too much, too, or Least or Last is none.
			settled(10, never("a", "b")),
			state(100, -1, 100, never("a", "b")),
			state(100, 101, 101, never("a", "b")),
			state(100, 50, 49, never("a", "b")),
			state(100, 100, most+1, never("a", "b")),
			state(10, -1, -2, field("a", "b"), never("c", "d")),
		},
		api.ErrLong: {
			settled(0, field("", "")),
			settled(33, field("a", "b")),
			settled(67, field("a", "b"), field("c", "d")),
			settled(most, sized("x", most+1)),
			settled(most, make([]api.Field, 129)...),
			// Least or Last is none, too.
			state(33, -1, 33, field("a", "b")),
			state(33, 34, 34, field("a", "b")),
			state(33, 20, 10, field("a", "b")),
			state(33, 33, most+1, field("a", "b")),
			state(0, math.MinInt64, math.MaxInt64, field("", "")),
		},
		api.ErrRange: {
			// Least: below 0, above the Max, above Last.
			state(most, -1, most), state(most, -1, -1), state(0, -1, 0), state(0, 1, 1), state(34, 35, 35, field("a", "b")), state(0, most, most),
			state(most-1, most, most), state(most, 1, 0), state(most, most, most-1), state(100, 50, 49, field("a", "b")), state(100, 0, -1),
			// Last: above all tables.
			state(most, most, most+1), state(most, 0, most+1), state(0, 0, most+1), state(most, most+1, most+1),
			// The Max is none, whatever the others.
			state(-1, 0, 0), settled(-1), settled(most + 1), state(most+1, 0, 0), state(most+1, most, most), settled(math.MaxInt64),
			state(-1, 0, 0, never("a", "b")), state(most+1, 0, 0, never("a", "b")), state(-1, 0, 0, field("a", "b")),
		},
	}
	for _, n := range slices.Concat(negative, great) {
		m[api.ErrRange] = append(m[api.ErrRange], settled(n), state(n, 0, 0), state(n, 0, most), state(n, 0, 0, never("a", "b")),
			state(most, n, most), state(most, 0, n), state(most, n, n), state(34, n, n, field("a", "b")), state(34, n, 34, field("a", "b")), state(34, 34, n, field("a", "b")))
	}
	return m
}

// wholeOnes are states that may be.
func wholeOnes() []henc.State {
	return []henc.State{
		{}, state(0, 0, 1), state(0, 0, most), settled(1), settled(31), state(1, 0, 0), state(1, 0, 1), state(1, 1, most), settled(most), settled(most - 1),
		state(most, 0, 0), state(most, 0, most), state(most, most-1, most), state(most-1, most-1, most), state(most, 1, 2),
		settled(32, field("", "")), state(32, 31, 33, field("", "")),
		state(34, 34, 40, field("a", "b")),
		settled(68, field("a", "b"), field("c", "d")),
		state(68, 34, 34, field("a", "b"), field("c", "d")),
		state(68, 34, 68, field("a", "b"), field("c", "d")),
		state(80, 0, 80, field("a", "b"), field("c", "d")),
		state(80, 79, 81, field("a", "b"), field("c", "d")),
		settled(most, field("a", "b"), field("c", "d"), field("a", "b")),
		settled(most, sized("x", most)),
		state(most, most, most, sized("x", most-counted), field("", "")),
		state(most, 100, 2000, make([]api.Field, 128)...),
		settled(1000, field(":path", "/x"), field(":method", "GET"), field("cookie", "a=b"), field("custom-key", "custom-value")),
		state(1000, 100, 500, field(":path", "/x"), field(":method", "GET"), field("cookie", "a=b"), field("custom-key", "custom-value")),
	}
}

func TestP7_1New(t *testing.T) {
	st := henc.New()
	if !alike(st, henc.State{Table: dyntab.Table{Max: 4096}, Least: 4096, Last: 4096}) {
		t.Errorf("New() = %s", show(st))
	}
	wantCheck(t, st, api.OK)
	if !henc.Same(st, henc.New()) {
		t.Error("two new states are not the same")
	}
}

func TestP7_1CheckOfStates(t *testing.T) {
	for _, st := range wholeOnes() {
		wantCheck(t, st, api.OK)
	}
	for want, l := range refused() {
		for _, st := range l {
			wantCheck(t, st, want)
		}
	}
	for n := range most + 1 {
		wantCheck(t, settled(n), api.OK)
		wantCheck(t, state(n, 0, n), api.OK)
		wantCheck(t, state(n, 0, most), api.OK)
		wantCheck(t, state(most, n, n), api.OK)
	}
}

// Least and Last far below, at, and far above their edges, and all that lies near a Max.
func TestP7_1CheckOfLeastAndLast(t *testing.T) {
	edges := slices.Concat(negative, great, []int{0, 1, 2, 33, 34, 35, 99, 100, 101, most - 2, most - 1, most})
	for _, max := range []int{0, 1, 34, 100, most - 1, most} {
		for _, least := range edges {
			for _, last := range edges {
				want := api.ErrRange
				if least >= 0 && least <= last && last <= most && least <= max {
					want = api.OK
				}
				wantCheck(t, state(max, least, last), want)
				if max >= 34 {
					wantCheck(t, state(max, least, last, field("a", "b")), want)
				}
			}
		}
	}
}

func TestP7_1Same(t *testing.T) {
	unlike := []henc.State{
		{},
		state(100, 50, 80, field("a", "b"), field("c", "d")),
		// In Max, Least or Last.
		state(101, 50, 80, field("a", "b"), field("c", "d")),
		state(100+1<<32, 50, 80, field("a", "b"), field("c", "d")),
		state(100, 51, 80, field("a", "b"), field("c", "d")),
		state(100, -50, 80, field("a", "b"), field("c", "d")),
		state(100, 50+1<<32, 80, field("a", "b"), field("c", "d")),
		state(100, 50, 81, field("a", "b"), field("c", "d")),
		state(100, 50, 80-1<<32, field("a", "b"), field("c", "d")),
		state(100, 80, 50, field("a", "b"), field("c", "d")),
		state(50, 100, 80, field("a", "b"), field("c", "d")),
		state(80, 50, 100, field("a", "b"), field("c", "d")),
		// In length alone.
		state(100, 50, 80),
		state(100, 50, 80, field("a", "b")),
		state(100, 50, 80, field("c", "d")),
		state(100, 50, 80, field("a", "b"), field("c", "d"), field("a", "b")),
		state(100, 50, 80, field("a", "b"), field("c", "d"), field("", "")),
		// In a field.
		state(100, 50, 80, field("A", "b"), field("c", "d")),
		state(100, 50, 80, field("a", "x"), field("c", "d")),
		state(100, 50, 80, field("a", "b"), field("x", "d")),
		state(100, 50, 80, field("a", "b"), field("c", "")),
		state(100, 50, 80, field("ab", ""), field("c", "d")),
		state(100, 50, 80, field("", "ab"), field("c", "d")),
		state(100, 50, 80, never("a", "b"), field("c", "d")),
		state(100, 50, 80, field("a", "b"), never("c", "d")),
		state(100, 50, 80, field("c", "d"), field("a", "b")),
		state(1, 0, 0), state(0, 1, 0), state(0, 0, 1), state(0, 0, 0, field("", "")),
	}
	for i, a := range unlike {
		for j, b := range unlike {
			a, b := clone(a), clone(b)
			if is := henc.Same(a, b); is != (i == j) || !alike(a, unlike[i]) || !alike(b, unlike[j]) {
				t.Errorf("Same(%s, %s) = %t", show(a), show(b), is)
			}
		}
	}
	if !henc.Same(settled(5), henc.State{Table: dyntab.Table{Max: 5, List: []api.Field{}}, Least: 5, Last: 5}) {
		t.Error("none and the empty list are not the same")
	}
	if !henc.Same(unlike[1], state(100, 50, 80, append(make([]api.Field, 0, 9), unlike[1].Table.List...)...)) {
		t.Error("the spare room makes two states of one")
	}
}

// Nothing of the table changes, also where it is greater than it may be from now on.
func TestP7_2LimitOfStates(t *testing.T) {
	for _, st := range wholeOnes() {
		for _, n := range []int{0, 1, 33, 34, 50, 79, 80, 81, 100, 1000, most - 1, most} {
			wantLimit(t, st, n, state(st.Table.Max, min(st.Least, n), n, st.Table.List...), api.OK)
		}
		for _, n := range great {
			wantLimit(t, st, n, state(st.Table.Max, st.Least, most, st.Table.List...), api.OK)
		}
		for _, n := range negative {
			wantLimit(t, st, n, st, api.ErrRange)
		}
	}
	for n := range most + 1 {
		wantLimit(t, henc.New(), n, state(most, n, n), api.OK)
		wantLimit(t, state(1000, 500, 600), n, state(1000, min(n, 500), n), api.OK)
	}
}

// The state goes ahead of the number, whatever that is.
func TestP7_2LimitOfAStateThatMayNotBe(t *testing.T) {
	for want, l := range refused() {
		for _, st := range l {
			for _, n := range slices.Concat(negative, great, []int{0, 1, 34, 100, most - 1, most}) {
				wantLimit(t, st, n, st, want)
			}
		}
	}
}

func TestP7_2LimitDownAndUpAgain(t *testing.T) {
	a := field("a", "b")
	st := settled(200, a)
	st = wantLimit(t, st, 100, state(200, 100, 100, a), api.OK)
	st = wantLimit(t, st, 300, state(200, 100, 300, a), api.OK)
	st = wantLimit(t, st, 150, state(200, 100, 150, a), api.OK)
	st = wantLimit(t, st, 0, state(200, 0, 0, a), api.OK)
	st = wantLimit(t, st, -1, state(200, 0, 0, a), api.ErrRange)
	st = wantLimit(t, st, most, state(200, 0, most, a), api.OK)
	st = wantLimit(t, st, most-1, state(200, 0, most-1, a), api.OK)
	wantLimit(t, st, math.MaxInt64, state(200, 0, most, a), api.OK)
	// Up alone.
	st = wantLimit(t, settled(200, a), 201, state(200, 200, 201, a), api.OK)
	st = wantLimit(t, st, most+1, state(200, 200, most, a), api.OK)
	wantLimit(t, st, 200, settled(200, a), api.OK)
}

func TestP7_2SeveralLimits(t *testing.T) {
	r := rand.New(rand.NewSource(72))
	for range 2000 {
		max := r.Intn(most + 1)
		st, least, last := settled(max), max, max
		for range r.Intn(6) {
			n := r.Intn(most + 200)
			last = min(n, most)
			least = min(least, last)
			st = wantLimit(t, st, n, state(max, least, last), api.OK)
			wantCheck(t, st, api.OK)
		}
	}
}

func TestP7_3TheChaptersExample(t *testing.T) {
	wantWritten(t, henc.New(), []api.Field{field(":method", "GET")}, henc.New(), indexed(2))
}

// RFC 7541, C.4 and C.6; but that 307 has a code that is no shorter than it.
func TestP7_3TheRFCsExamples(t *testing.T) {
	for _, x := range []struct {
		st     henc.State
		lists  [][]api.Field
		blocks []string
		left   henc.State
	}{
		{henc.New(), [][]api.Field{
			{field(":method", "GET"), field(":scheme", "http"), field(":path", "/"), field(":authority", "www.example.com")},
			{field(":method", "GET"), field(":scheme", "http"), field(":path", "/"), field(":authority", "www.example.com"), field("cache-control", "no-cache")},
			{field(":method", "GET"), field(":scheme", "https"), field(":path", "/index.html"), field(":authority", "www.example.com"), field("custom-key", "custom-value")},
		}, []string{
			"\x82\x86\x84\x41\x8c\xf1\xe3\xc2\xe5\xf2\x3a\x6b\xa0\xab\x90\xf4\xff",
			"\x82\x86\x84\xbe\x58\x86\xa8\xeb\x10\x64\x9c\xbf",
			"\x82\x87\x85\xbf\x40\x88\x25\xa8\x49\xe9\x5b\xa9\x7d\x7f\x89\x25\xa8\x49\xe9\x5b\xb8\xe8\xb4\xbf",
		}, settled(most, field("custom-key", "custom-value"), field("cache-control", "no-cache"), field(":authority", "www.example.com"))},
		{settled(256), [][]api.Field{
			{field(":status", "302"), field("cache-control", "private"), field("date", "Mon, 21 Oct 2013 20:13:21 GMT"), field("location", "https://www.example.com")},
			{field(":status", "307"), field("cache-control", "private"), field("date", "Mon, 21 Oct 2013 20:13:21 GMT"), field("location", "https://www.example.com")},
			{field(":status", "200"), field("cache-control", "private"), field("date", "Mon, 21 Oct 2013 20:13:22 GMT"), field("location", "https://www.example.com"), field("content-encoding", "gzip"), field("set-cookie", "foo=ASDJKHQKBZXOQWEOPIUAXQWEOIU; max-age=3600; version=1")},
		}, []string{
			"\x48\x82\x64\x02\x58\x85\xae\xc3\x77\x1a\x4b\x61\x96\xd0\x7a\xbe\x94\x10\x54\xd4\x44\xa8\x20\x05\x95\x04\x0b\x81\x66\xe0\x82\xa6\x2d\x1b\xff\x6e\x91\x9d\x29\xad\x17\x18\x63\xc7\x8f\x0b\x97\xc8\xe9\xae\x82\xae\x43\xd3",
			"\x48\x03307\xc1\xc0\xbf",
			"\x88\xc1\x61\x96\xd0\x7a\xbe\x94\x10\x54\xd4\x44\xa8\x20\x05\x95\x04\x0b\x81\x66\xe0\x84\xa6\x2d\x1b\xff\xc0\x5a\x83\x9b\xd9\xab\x77\xad\x94\xe7\x82\x1d\xd7\xf2\xe6\xc7\xb3\x35\xdf\xdf\xcd\x5b\x39\x60\xd5\xaf\x27\x08\x7f\x36\x72\xc1\xab\x27\x0f\xb5\x29\x1f\x95\x87\x31\x60\x65\xc0\x03\xed\x4e\xe5\xb1\x06\x3d\x50\x07",
		}, settled(256, field("set-cookie", "foo=ASDJKHQKBZXOQWEOPIUAXQWEOIU; max-age=3600; version=1"), field("content-encoding", "gzip"), field("date", "Mon, 21 Oct 2013 20:13:22 GMT"))},
	} {
		st := x.st
		for i, l := range x.lists {
			next, b, e := henc.Block(st, l)
			if string(b) != x.blocks[i] || e != api.OK {
				t.Errorf("Block(%s) = %x, %d, want %x", showList(l), b, e, x.blocks[i])
			}
			st = next
		}
		if !alike(st, x.left) {
			t.Errorf("%s is left, want %s", show(st), show(x.left))
		}
	}
}

func TestP7_3AStateThatMayNotBe(t *testing.T) {
	for want, l := range refused() {
		for _, st := range l {
			wantWrong(t, st, nil, want)
			wantWrong(t, st, []api.Field{field(":method", "GET")}, want)
			wantWrong(t, st, []api.Field{field("x", "y"), never("x", "y")}, want)
			wantWrong(t, st, []api.Field{field("x", strings.Repeat("x", most+1))}, want)
		}
	}
}

// The Resizes come with no field behind them, too, and both but once.
func TestP7_3ResizesAhead(t *testing.T) {
	a, c, g := field("a", "b"), field("c", "d"), []api.Field{field(":method", "GET")}
	for _, x := range []struct {
		st    henc.State
		sizes []repr.Item
		left  henc.State
	}{
		{settled(80, a, c), nil, settled(80, a, c)},
		{settled(0), nil, settled(0)},
		// One, down: fields go, or none need to.
		{state(80, 68, 68, a, c), []repr.Item{resize(68)}, settled(68, a, c)},
		{state(80, 67, 67, a, c), []repr.Item{resize(67)}, settled(67, a)},
		{state(80, 33, 33, a, c), []repr.Item{resize(33)}, settled(33)},
		{state(80, 0, 0, a, c), []repr.Item{resize(0)}, settled(0)},
		// One, up.
		{state(80, 80, 81, a, c), []repr.Item{resize(81)}, settled(81, a, c)},
		{state(80, 80, most, a, c), []repr.Item{resize(most)}, settled(most, a, c)},
		{state(0, 0, 1), []repr.Item{resize(1)}, settled(1)},
		// Two: down and up, as far as it was, less far, and farther.
		{state(80, 0, 80, a, c), []repr.Item{resize(0), resize(80)}, settled(80)},
		{state(80, 34, 80, a, c), []repr.Item{resize(34), resize(80)}, settled(80, a)},
		{state(80, 79, 80, a, c), []repr.Item{resize(79), resize(80)}, settled(80, a, c)},
		{state(80, 67, 68, a, c), []repr.Item{resize(67), resize(68)}, settled(68, a)},
		{state(80, 67, most, a, c), []repr.Item{resize(67), resize(most)}, settled(most, a)},
		{state(most, 0, most, a, c), []repr.Item{resize(0), resize(most)}, settled(most)},
	} {
		for _, l := range [][]api.Field{nil, {}} {
			left := wantWritten(t, x.st, l, x.left, x.sizes...)
			wantWritten(t, left, l, x.left)
		}
		left := wantWritten(t, x.st, g, x.left, append(slices.Clone(x.sizes), indexed(2))...)
		wantWritten(t, left, g, x.left, indexed(2))
	}
}

// Of several limits the least one counts, and the last one.
func TestP7_3LimitsBetweenBlocks(t *testing.T) {
	a, c := field("a", "b"), field("c", "d")
	for _, x := range []struct {
		limits []int
		sizes  []repr.Item
		left   henc.State
	}{
		{nil, nil, settled(200, a, c)},
		{[]int{200}, nil, settled(200, a, c)},
		{[]int{300, 200}, nil, settled(200, a, c)},
		{[]int{300}, []repr.Item{resize(300)}, settled(300, a, c)},
		{[]int{300, 400, 350}, []repr.Item{resize(350)}, settled(350, a, c)},
		{[]int{150, 100}, []repr.Item{resize(100)}, settled(100, a, c)},
		{[]int{100, 34, 67, 150, 120}, []repr.Item{resize(34), resize(120)}, settled(120, a)},
		{[]int{34, 200}, []repr.Item{resize(34), resize(200)}, settled(200, a)},
		{[]int{0, most + 1}, []repr.Item{resize(0), resize(most)}, settled(most)},
		{[]int{most, 0}, []repr.Item{resize(0)}, settled(0)},
		{[]int{math.MaxInt64}, []repr.Item{resize(most)}, settled(most, a, c)},
		{[]int{34, -1, 200, -5}, []repr.Item{resize(34), resize(200)}, settled(200, a)},
	} {
		st := settled(200, a, c)
		for _, n := range x.limits {
			st, _ = henc.Limit(st, n)
		}
		left := wantWritten(t, st, nil, x.left, x.sizes...)
		wantWritten(t, left, nil, x.left)
	}
}

// The fields are looked up in the table as it is behind the Resizes, and held against its Max then.
func TestP7_3FieldsBehindAResize(t *testing.T) {
	a, c := field("a", "b"), field("c", "d")
	wantWritten(t, state(200, 34, 200, a, c), []api.Field{a, c}, settled(200, c, a), resize(34), resize(200), indexed(62), byText(repr.Adding, "c", "d"))
	wantWritten(t, state(200, 67, 67, a, c), []api.Field{c, field("a", "x")}, settled(67, a), resize(67), byText(repr.Plain, "c", "d"), byPlace(repr.Plain, 62, "x"))
	wantWritten(t, state(200, 68, 68, a, c), []api.Field{field("a", "x"), c}, settled(68, c, field("a", "x")), resize(68), byPlace(repr.Adding, 62, "x"), byText(repr.Adding, "c", "d"))
	wantWritten(t, state(0, 0, 68), []api.Field{a, c}, settled(68, c, a), resize(68), byText(repr.Adding, "a", "b"), byText(repr.Adding, "c", "d"))
	wantWritten(t, state(200, 0, 0, a), []api.Field{a, field("", ""), field(":method", "PUT")}, settled(0), resize(0), byText(repr.Plain, "a", "b"), byText(repr.Plain, "", ""), byPlace(repr.Plain, 2, "PUT"))
	wantWritten(t, state(200, 0, 67, a), []api.Field{a}, settled(67), resize(0), resize(67), byText(repr.Plain, "a", "b"))
	wantWritten(t, state(60, 0, 68), []api.Field{a}, settled(68, a), resize(0), resize(68), byText(repr.Adding, "a", "b"))
}

func TestP7_3FieldsOfTheStaticTable(t *testing.T) {
	for _, max := range []int{0, 100, most} {
		var all []repr.Item
		for i, f := range static.All() {
			wantWritten(t, settled(max), []api.Field{f}, settled(max), indexed(i+1))
			all = append(all, indexed(i+1))
		}
		wantWritten(t, settled(max), static.All(), settled(max), all...)
	}
}

func TestP7_3FieldsOfTheOtherTable(t *testing.T) {
	l := []api.Field{field("a", "b"), field("c", ""), field("", "d"), field("", ""), field("a", "e"), field(":method", "PUT"), field("a", "b")}
	st := settled(1000, l...)
	for i, f := range l {
		wantWritten(t, st, []api.Field{f}, st, indexed(62+i%6)) // the last one stands ahead, too
	}
	// Also where nothing could be added: they count more than half.
	full := settled(60, sized("x", 60))
	wantWritten(t, full, full.Table.List, full, indexed(62))
}

// The least place of the two tables: the static one's.
func TestP7_3FieldsOfBothTables(t *testing.T) {
	l := []api.Field{field(":method", "POST"), field("cookie", ""), field(":status", "500"), field(":status", "")}
	st := settled(1000, l...)
	wantWritten(t, st, l, st, indexed(3), indexed(32), indexed(14), indexed(65))
	// The name alone, too.
	wantWritten(t, st, []api.Field{field(":status", "501")}, settled(1000, append([]api.Field{field(":status", "501")}, l...)...), byPlace(repr.Adding, 8, "501"))
	// A value that the other table alone has with this name.
	st = settled(1000, field("x", "y"), field(":path", "/x"))
	wantWritten(t, st, []api.Field{field(":path", "/x")}, st, indexed(63))
}

func TestP7_3FieldsByTheirNamesAlone(t *testing.T) {
	st := settled(200, field("a", "1"), field("c", ""), field("a", "2"), field(":path", "/x"))
	for _, x := range []struct {
		name  string
		place int
	}{{"a", 62}, {"c", 63}, {":path", 4}, {":method", 2}, {":status", 8}, {"cookie", 32}, {"www-authenticate", 61}} {
		for _, value := range []string{"3", "\x00\xff", "GET "} {
			f := field(x.name, value)
			wantWritten(t, st, []api.Field{f}, settled(200, cut(slices.Concat([]api.Field{f}, st.Table.List), 200)...), byPlace(repr.Adding, x.place, value))
			wantWritten(t, st, []api.Field{never(x.name, value)}, st, byPlace(repr.Never, x.place, value))
		}
		long := strings.Repeat("v", 100)
		wantWritten(t, st, []api.Field{field(x.name, long)}, st, byPlace(repr.Plain, x.place, long))
	}
	// A name that a field just goes with: its place is that of the table as it was.
	a := field("a", "1")
	wantWritten(t, settled(68, field("x", "1"), a), []api.Field{field("a", "2")}, settled(68, field("a", "2"), field("x", "1")), byPlace(repr.Adding, 63, "2"))
}

func TestP7_3FieldsOfNeitherTable(t *testing.T) {
	st := settled(most, field("a", "b"))
	for _, f := range []api.Field{field("c", "d"), field("A", "b"), field("b", "a"), field("ab", ""), field("", "ab"), field(":Method", "GET"), field("GET", ":method"), field("\x00\xff", "\u00e4"), field("name", strings.Repeat("v", 500))} {
		wantWritten(t, st, []api.Field{f}, settled(most, f, field("a", "b")), byText(repr.Adding, f.Name, f.Value))
		wantWritten(t, st, []api.Field{never(f.Name, f.Value)}, st, byText(repr.Never, f.Name, f.Value))
	}
}

// Of a field that the tables have the place is the one at which they have it.
func TestP7_3FieldsThatAreNever(t *testing.T) {
	st := settled(200, field("a", "1"), field("c", "d"), field("a", "2"))
	for _, x := range []struct {
		name, value string
		place       int
	}{
		{":method", "GET", 2}, {":method", "POST", 3}, {":status", "500", 14}, {"cookie", "", 32}, {"a", "1", 62}, {"c", "d", 63}, {"a", "2", 64},
		{":method", "PUT", 2}, {"a", "3", 62}, {"c", "", 63}, {"authorization", "secret", 23},
	} {
		wantWritten(t, st, []api.Field{never(x.name, x.value)}, st, byPlace(repr.Never, x.place, x.value))
	}
	for _, max := range []int{0, 33, most} {
		// Also where it would count too much to be added, and where it would not.
		for _, value := range []string{"", "secret", strings.Repeat("&", 3000)} {
			wantWritten(t, settled(max), []api.Field{never("x", value)}, settled(max), byText(repr.Never, "x", value))
		}
	}
	// It is not put into the table, and so not found there by the next one.
	wantWritten(t, henc.New(), []api.Field{never("x", "y"), field("x", "y"), never("x", "y"), field("x", "y")}, settled(most, field("x", "y")),
		byText(repr.Never, "x", "y"), byText(repr.Adding, "x", "y"), byPlace(repr.Never, 62, "y"), indexed(62))
}

func TestP7_3TheSameFieldTwice(t *testing.T) {
	a, c := field("a", "b"), field("c", "d")
	wantWritten(t, henc.New(), []api.Field{a, a}, settled(most, a), byText(repr.Adding, "a", "b"), indexed(62))
	wantWritten(t, henc.New(), []api.Field{a, c, a, c}, settled(most, c, a), byText(repr.Adding, "a", "b"), byText(repr.Adding, "c", "d"), indexed(63), indexed(62))
	wantWritten(t, henc.New(), []api.Field{a, field("a", "x"), a}, settled(most, field("a", "x"), a), byText(repr.Adding, "a", "b"), byPlace(repr.Adding, 62, "x"), indexed(63))
	// One that has gone again in between, and one that never came.
	e := field("e", "f")
	wantWritten(t, settled(68), []api.Field{a, c, e, a}, settled(68, a, e), byText(repr.Adding, "a", "b"), byText(repr.Adding, "c", "d"), byText(repr.Adding, "e", "f"), byText(repr.Adding, "a", "b"))
	wantWritten(t, settled(67), []api.Field{a, a}, settled(67), byText(repr.Plain, "a", "b"), byText(repr.Plain, "a", "b"))
}

// A field that counts just half of the Max is added, one that counts one more is not; half of an odd Max is no whole number.
func TestP7_3FieldsThatCountHalfOfTheMax(t *testing.T) {
	for _, max := range []int{64, 65, 66, 67, 68, 69, 100, 101, 999, 1000, most - 1, most} {
		had := field("", "")
		st := settled(max, had)
		for n := max/2 - 2; n <= max/2+3; n++ {
			if n < 34 {
				continue
			}
			for _, f := range []api.Field{sized("x", n), field(strings.Repeat("n", n-counted), "")} {
				if 2*n <= max {
					wantWritten(t, st, []api.Field{f}, settled(max, cut([]api.Field{f, had}, max)...), byText(repr.Adding, f.Name, f.Value))
				} else {
					wantWritten(t, st, []api.Field{f}, st, byText(repr.Plain, f.Name, f.Value))
				}
			}
		}
	}
	// The name counts, whether it is told by its place or as a text; so does a field with nothing.
	wantWritten(t, settled(86), []api.Field{field(":method", "1234")}, settled(86, field(":method", "1234")), byPlace(repr.Adding, 2, "1234"))
	wantWritten(t, settled(85), []api.Field{field(":method", "1234")}, settled(85), byPlace(repr.Plain, 2, "1234"))
	wantWritten(t, settled(64), []api.Field{{}}, settled(64, field("", "")), byText(repr.Adding, "", ""))
	wantWritten(t, settled(63), []api.Field{{}}, settled(63), byText(repr.Plain, "", ""))
}

func TestP7_3ATableOfNothing(t *testing.T) {
	st := settled(0)
	l := []api.Field{{}, field("a", "b"), field(":method", "GET"), field(":method", "PUT"), never("a", "b"), field("a", strings.Repeat("v", most))}
	wantItems(t, st, l, st, []repr.Item{byText(repr.Plain, "", ""), byText(repr.Plain, "a", "b"), indexed(2), byPlace(repr.Plain, 2, "PUT"), byText(repr.Never, "a", "b"), byText(repr.Plain, "a", strings.Repeat("v", most))}, api.OK)
	for _, f := range l {
		_, items := modelItems(st, []api.Field{f})
		wantWritten(t, st, []api.Field{f}, st, items...)
	}
}

func TestP7_3NothingAtAll(t *testing.T) {
	for _, st := range wholeOnes() {
		want, items := modelItems(st, nil)
		wantWritten(t, st, nil, want, items...)
		wantWritten(t, st, []api.Field{}, want, items...)
	}
	e := field("", "")
	wantWritten(t, henc.New(), []api.Field{e, e, field("", "v"), field("n", ""), field("n", "")}, settled(most, field("n", ""), field("", "v"), e),
		byText(repr.Adding, "", ""), indexed(62), byPlace(repr.Adding, 62, "v"), byText(repr.Adding, "n", ""), indexed(62))
	wantWritten(t, henc.New(), []api.Field{never("", "")}, henc.New(), byText(repr.Never, "", ""))
}

func TestP7_3TextsThatAreJustAsLongAsTheyMayBe(t *testing.T) {
	just := strings.Repeat("0", most) // its code has 2560 bytes
	for _, st := range []henc.State{henc.New(), settled(0), state(100, 0, 200, field("a", "b"))} {
		for _, f := range []api.Field{field(just, ""), field("", just), field("a", just), field(":method", just), never(just, "a"), never("a", just), field(just, just)} {
			want, items := modelItems(st, []api.Field{f})
			wantWritten(t, st, []api.Field{f}, want, items...)
		}
	}
}

// Beside such a field nothing of the block is done, whatever stands ahead of it or behind it.
func TestP7_3TextsThatAreTooLong(t *testing.T) {
	for _, n := range []int{most + 1, most + 2, 8192, 1 << 17} {
		long := strings.Repeat("0", n)
		for _, f := range []api.Field{field(long, ""), field("", long), field(long, long), field("a", long), field(":method", long), field(long, "GET"), never(long, "a"), never("a", long)} {
			for _, st := range []henc.State{henc.New(), settled(0), settled(100, field("a", "b")), state(100, 0, 200, field("a", "b"))} {
				wantWrong(t, st, []api.Field{f}, api.ErrLong)
				wantWrong(t, st, []api.Field{f, field("c", "d")}, api.ErrLong)
				wantWrong(t, st, []api.Field{field("c", "d"), field("e", "f"), never("g", "h"), f}, api.ErrLong)
				wantWrong(t, st, []api.Field{field("c", "d"), f, field("e", "f"), f}, api.ErrLong)
			}
		}
	}
}

// One byte more or less, in blocks of one field, of two, and of many, with Resizes ahead and without.
func TestP7_3BlocksThatAreJustAsLongAsTheyMayBe(t *testing.T) {
	get := field(":method", "GET")
	for _, x := range []struct {
		st    henc.State
		ahead int // bytes of Resizes
	}{{henc.New(), 0}, {settled(0), 0}, {state(100, 0, 0, field("c", "d")), 1}, {state(100, 100, 200, field("c", "d")), 3}, {state(100, 0, 200, field("c", "d")), 4}} {
		for n := most - 2; n <= most+3; n++ {
			// A text that has no shorter code, of 255 bytes and more, has three bytes of length.
			one := field("&", strings.Repeat("&", n-x.ahead-6))
			two := []api.Field{one, get}
			two[0].Value = one.Value[1:]
			for _, l := range [][]api.Field{{one}, {never(one.Name, one.Value)}, two, slices.Repeat([]api.Field{get}, n-x.ahead)} {
				want, items := modelItems(x.st, l)
				if b := bytesOf(t, items); len(b) != n {
					t.Fatalf("%s has %d bytes, not %d", showList(l), len(b), n)
				}
				wantWritten(t, x.st, l, want, items...)
			}
		}
	}
	// Far more, also behind fields that would change the table.
	st := state(200, 0, 100, field("a", "b"))
	wantBlock(t, st, []api.Field{field("c", "d"), field("x", strings.Repeat("&", most)), field("e", "f")}, st, "", api.ErrLong)
	wantBlock(t, st, append([]api.Field{field("c", "d")}, slices.Repeat([]api.Field{get}, 100000)...), st, "", api.ErrLong)
}

// Fields of few names and values, so that each kind of item comes often.
func someFields(r *rand.Rand, n int) []api.Field {
	l := make([]api.Field, r.Intn(n))
	for i := range l {
		switch r.Intn(8) {
		case 0:
			l[i] = static.All()[r.Intn(static.Len)]
		case 1:
			l[i] = field(static.All()[r.Intn(static.Len)].Name, strconv.Itoa(r.Intn(9)))
		case 2:
			l[i] = field("n"+strconv.Itoa(r.Intn(5)), strings.Repeat("v", r.Intn(1+r.Intn(300))))
		default:
			l[i] = field("n"+strconv.Itoa(r.Intn(20)), strconv.Itoa(r.Intn(5)))
		}
		l[i].Never = r.Intn(10) == 0
	}
	return l
}

func someLimits(r *rand.Rand, st henc.State, most int) henc.State {
	for range r.Intn(8) / 5 * (1 + r.Intn(3)) {
		st, _ = henc.Limit(st, r.Intn(most+1)/(1+r.Intn(4)))
	}
	return st
}

func TestP7_3ItemsAreAsTheModel(t *testing.T) {
	r := rand.New(rand.NewSource(73))
	kinds := map[uint8]int{}
	for range 60 {
		st := henc.New()
		for range 100 {
			st = someLimits(r, st, most)
			l := someFields(r, 16)
			want, items := modelItems(st, l)
			for _, x := range items {
				kinds[x.Kind]++
			}
			st = wantWritten(t, st, l, want, items...)
			wantCheck(t, st, api.OK)
		}
	}
	for kind := range uint8(5) {
		if kinds[kind] < 500 {
			t.Errorf("%d items of the kind %d are too few", kinds[kind], kind)
		}
	}
}

// wantRead holds that layer 6 reads a block as the fields that it was made of, by the whole block and item by item.
func wantRead(t *testing.T, other hdec.State, b []byte, l []api.Field, left henc.State) hdec.State {
	t.Helper()
	next, read, is, e := hdec.Block(other, b)
	small := count(l) <= api.MaxList
	if e != api.OK || is != small || small && !slices.Equal(read, l) {
		t.Errorf("%s is read as %s, %t, %d", showList(l), showList(read), is, e)
	}
	if !alikeTables(next.Table, left.Table) {
		t.Errorf("behind %s the one table is %d %s, the other one %d %s", showList(l), left.Table.Max, showList(left.Table.List), next.Table.Max, showList(next.Table.List))
	}
	items, e := repr.All(b)
	if e != api.OK {
		t.Errorf("%s becomes no items: %d", showList(l), e)
	}
	read = nil
	for _, x := range items {
		st, f, is, e := hdec.Step(other, x)
		if e != api.OK {
			t.Errorf("%s can't be done: %d", showItems([]repr.Item{x}), e)
		}
		if other = st; is {
			read = append(read, f)
		}
	}
	if !slices.Equal(read, l) || !hdec.Same(other, next) {
		t.Errorf("%s is read item by item as %s", showList(l), showList(read))
	}
	return next
}

func TestP7_4WhatIsWrittenIsRead(t *testing.T) {
	r := rand.New(rand.NewSource(74))
	small := 0
	for range 80 {
		st := henc.New()
		other, _ := hdec.New(most)
		for range 80 {
			st = someLimits(r, st, most+100)
			l := someFields(r, 24)
			left, b, e := henc.Block(st, l)
			if e != api.OK {
				t.Fatalf("Block(%s, %s): %d", show(st), showList(l), e)
			}
			if count(l) <= api.MaxList {
				small++
			}
			st, other = left, wantRead(t, other, b, l, left)
		}
	}
	if small < 1000 {
		t.Errorf("%d lists that layer 6 takes are too few", small)
	}
}

// The other side's limit is a lower one from its first block on.
func TestP7_4WhatIsWrittenWithinALimitIsRead(t *testing.T) {
	r := rand.New(rand.NewSource(741))
	for _, cap := range []int{0, 1, 63, 64, 65, 100, 256, 1000, most - 1, most} {
		st, _ := henc.Limit(henc.New(), cap)
		other, _ := hdec.New(cap)
		for range 100 {
			l := someFields(r, 12)
			left, b, e := henc.Block(st, l)
			if e != api.OK {
				t.Fatalf("Block(%s, %s): %d", show(st), showList(l), e)
			}
			other = wantRead(t, other, b, l, left)
			st = someLimits(r, left, cap)
		}
	}
}

// A block that can't be written changes neither table: the next one is read as if it had not been asked for.
func TestP7_4BehindABlockThatIsTooLong(t *testing.T) {
	r := rand.New(rand.NewSource(742))
	st := henc.New()
	other, _ := hdec.New(most)
	for range 100 {
		st = someLimits(r, st, most)
		wrong, _, e := henc.Block(st, append(someFields(r, 12), field("x", strings.Repeat("&", most-r.Intn(3)+1))))
		if e != api.ErrLong {
			t.Fatalf("%d, want ErrLong", e)
		}
		l := someFields(r, 12)
		left, b, e := henc.Block(wrong, l)
		if e != api.OK {
			t.Fatalf("Block(%s, %s): %d", show(st), showList(l), e)
		}
		st, other = left, wantRead(t, other, b, l, left)
	}
}

func TestP7_4TextsOfAnyBytesAreRead(t *testing.T) {
	r := rand.New(rand.NewSource(743))
	st := henc.New()
	other, _ := hdec.New(most)
	text := func() string {
		b := make([]byte, r.Intn(60))
		for i := range b {
			b[i] = byte(r.Intn(256))
		}
		return string(b)
	}
	for range 300 {
		var l []api.Field
		for range r.Intn(8) {
			l = append(l, api.Field{Name: text(), Value: text(), Never: r.Intn(4) == 0})
		}
		left, b, e := henc.Block(st, l)
		if e != api.OK {
			t.Fatalf("Block(%s): %d", showList(l), e)
		}
		st, other = left, wantRead(t, other, b, l, left)
	}
}

// spoil writes over all of a list of fields, and over its spare room.
func spoil(l []api.Field) {
	l = l[:cap(l)]
	for i := range l {
		l[i] = never("written", "over")
	}
}

// Also where nothing has changed the table.
func TestP7_2And3WhatGoesOutIsNewMemory(t *testing.T) {
	limit := func(n int) func(henc.State, []api.Field) henc.State {
		return func(st henc.State, _ []api.Field) henc.State {
			st, _ = henc.Limit(st, n)
			return st
		}
	}
	for name, do := range map[string]func(henc.State, []api.Field) henc.State{
		"Limit to 0":        limit(0),
		"Limit to the same": limit(300),
		"Limit to more":     limit(400),
		"Items": func(st henc.State, l []api.Field) henc.State {
			st, x, _ := henc.Items(st, l)
			clear(x[:cap(x)])
			return st
		},
		"Block": func(st henc.State, l []api.Field) henc.State {
			st, b, _ := henc.Block(st, l)
			clear(b[:cap(b)])
			return st
		},
	} {
		for _, limits := range [][2]int{{300, 300}, {200, 200}, {200, 300}, {300, 400}} {
			for had := 1; had < 6; had++ {
				for _, l := range [][]api.Field{nil, {field("a", "b")}, {never("x", "y")}, {field("x", strings.Repeat("v", 200))}, {field("x", "y"), field("z", "")}} {
					room := []api.Field{field("a", "b"), field("c", "d"), field("e", "f"), field("g", "h"), field("i", "j"), field("behind", "1"), field("behind", "2")}
					kept, came := slices.Clone(room), slices.Clone(l)
					st := state(300, limits[0], limits[1], room[:had]...)
					left, other := do(st, came), do(st, came)
					told := clone(left)
					spoil(other.Table.List)
					if !alike(left, told) {
						t.Errorf("%s: two answers share their memory", name)
					}
					spoil(left.Table.List)
					if !slices.Equal(room, kept) || !slices.Equal(came, l) {
						t.Errorf("%s shares its memory with what came in, or changed it", name)
					}
					left = do(st, came)
					spoil(room)
					spoil(came)
					if !alike(left, told) {
						t.Errorf("%s keeps what came in", name)
					}
				}
			}
		}
	}
}

// What is spoilt of one answer is not spoilt of another one.
func TestP7_3TwoAnswersShareNothing(t *testing.T) {
	l := []api.Field{field("a", "b"), field(":method", "GET"), never("x", "y"), field("", strings.Repeat("&", 300))}
	for _, st := range []henc.State{henc.New(), settled(0), state(300, 0, 200, field("a", "b")), state(300, 200, 200, field("a", "b"))} {
		_, wantX := modelItems(st, l)
		wantB := bytesOf(t, wantX)
		_, x, _ := henc.Items(st, l)
		_, otherX, _ := henc.Items(st, l)
		_, b, _ := henc.Block(st, l)
		_, otherB, _ := henc.Block(st, l)
		clear(otherX[:cap(otherX)])
		clear(otherB[:cap(otherB)])
		if !slices.Equal(x, wantX) || string(b) != wantB {
			t.Errorf("two answers of %s share their memory", show(st))
		}
	}
}
