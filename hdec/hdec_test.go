package hdec_test

import (
	"math"
	"math/rand"
	"slices"
	"strconv"
	"strings"
	"testing"

	"footman/api"
	"footman/dyntab"
	"footman/hdec"
	"footman/huff"
	"footman/prefint"
	"footman/repr"
	"footman/static"
)

const (
	most     = 4096 // what a table may count, and the bytes of a text
	mostList = 1024 // what a list may count
	counted  = 32   // what a field counts beside its bytes
)

// far are numbers that are no size of a table.
var far = []int{
	-1, -2, -31, -32, -4095, -4096, -4097, math.MinInt32, math.MinInt32 - 1, -1 << 32, -1<<32 + 1, math.MinInt64, math.MinInt64 + 1, math.MinInt64 + 4096,
	4097, 4098, 5000, 8192, 1 << 16, 1<<16 + 4096, api.MaxInt, math.MaxInt32, 1 << 32, 1<<32 + 1, 1<<32 + 4096, 1 << 40, math.MaxInt64 - 1, math.MaxInt64,
}

func field(name, value string) api.Field { return api.Field{Name: name, Value: value} }

func never(name, value string) api.Field { return api.Field{Name: name, Value: value, Never: true} }

// sized is a field that counts so much; what comes ahead tells it from others.
func sized(ahead string, n int) api.Field {
	return field(ahead, strings.Repeat("v", n-counted-len(ahead)))
}

func state(cap, max int, l ...api.Field) hdec.State {
	return hdec.State{Table: dyntab.Table{Max: max, List: l}, Cap: cap}
}

func clone(st hdec.State) hdec.State {
	return state(st.Cap, st.Table.Max, append([]api.Field(nil), st.Table.List...)...)
}

func alike(a, b hdec.State) bool {
	return a.Cap == b.Cap && a.Table.Max == b.Table.Max && slices.Equal(a.Table.List, b.Table.List)
}

func count(l []api.Field) int {
	n := 0
	for _, f := range l {
		n += counted + len(f.Name) + len(f.Value)
	}
	return n
}

// cut takes the oldest fields off, one by one, as long as the rest counts more than there may be.
func cut(l []api.Field, most int) []api.Field {
	l = slices.Clone(l)
	for len(l) > 0 && count(l) > most {
		l = l[:len(l)-1]
	}
	return l
}

func indexed(i int) repr.Item { return repr.Item{Kind: repr.Indexed, Index: i} }

func resize(n int) repr.Item { return repr.Item{Kind: repr.Resize, Index: n} }

func byPlace(kind uint8, i int, value string) repr.Item {
	return repr.Item{Kind: kind, Index: i, Value: value}
}

func byText(kind uint8, name, value string) repr.Item {
	return repr.Item{Kind: kind, Name: name, Value: value}
}

// texted are the kinds that have a value.
var texted = []uint8{repr.Adding, repr.Plain, repr.Never}

// bytesOf are the bytes of items, as layer 5 puts them.
func bytesOf(t *testing.T, l ...repr.Item) string {
	t.Helper()
	s := ""
	for _, x := range l {
		b, e := repr.Put(x)
		if e != api.OK {
			t.Fatalf("Put(%s): %d", showItem(x), e)
		}
		s += string(b)
	}
	return s
}

// modelStep is what Step must tell of a state that may be and an item that may be.
func modelStep(st hdec.State, x repr.Item) (hdec.State, api.Field, bool, api.Errno) {
	if x.Kind == repr.Resize {
		if x.Index > st.Cap {
			return st, api.Field{}, false, api.ErrRange
		}
		return state(st.Cap, x.Index, cut(st.Table.List, x.Index)...), api.Field{}, false, api.OK
	}
	both := append(static.All(), st.Table.List...)
	if x.Index > len(both) {
		return st, api.Field{}, false, api.ErrNone
	}
	name := x.Name
	if x.Index > 0 {
		name = both[x.Index-1].Name
	}
	switch x.Kind {
	case repr.Indexed:
		return st, both[x.Index-1], true, api.OK
	case repr.Plain:
		return st, field(name, x.Value), true, api.OK
	case repr.Never:
		return st, never(name, x.Value), true, api.OK
	}
	f := field(name, x.Value)
	return state(st.Cap, st.Table.Max, cut(slices.Concat([]api.Field{f}, st.Table.List), st.Table.Max)...), f, true, api.OK
}

// modelItems is what Block must tell of items that may be, on a state that may be.
func modelItems(st hdec.State, items []repr.Item) (hdec.State, []api.Field, bool, api.Errno) {
	was := st
	var l []api.Field
	for i, x := range items {
		if x.Kind == repr.Resize && i > 0 && items[i-1].Kind != repr.Resize {
			return was, nil, false, api.ErrOrder
		}
		next, f, is, e := modelStep(st, x)
		if e != api.OK {
			return was, nil, false, e
		}
		if st = next; is {
			l = append(l, f)
		}
	}
	if count(l) > mostList {
		return st, nil, false, api.OK
	}
	return st, l, true, api.OK
}

// short keeps what a failure tells short.
func short(s string) string {
	return strconv.Quote(s[:min(len(s), 16)]) + "(" + strconv.Itoa(len(s)) + ")"
}

func showList(l []api.Field) string {
	s := strconv.Itoa(len(l)) + "["
	for _, f := range l[:min(len(l), 8)] {
		s += " " + short(f.Name) + "=" + short(f.Value)
		if f.Never {
			s += " never"
		}
	}
	return s + "]"
}

func show(st hdec.State) string {
	return "{" + strconv.Itoa(st.Cap) + " " + strconv.Itoa(st.Table.Max) + " " + showList(st.Table.List) + "}"
}

func showItem(x repr.Item) string {
	return "{" + strconv.Itoa(int(x.Kind)) + " " + strconv.Itoa(x.Index) + " " + short(x.Name) + " " + short(x.Value) + "}"
}

func wantCheck(t *testing.T, st hdec.State, want api.Errno) {
	t.Helper()
	if e := hdec.Check(st); e != want {
		t.Errorf("Check(%s) = %d, want %d", show(st), e, want)
	}
}

// wantStep also holds that the argument stays as it is.
func wantStep(t *testing.T, st hdec.State, x repr.Item, want hdec.State, wantF api.Field, wantIs bool, wantE api.Errno) hdec.State {
	t.Helper()
	kept := clone(st)
	left, f, is, e := hdec.Step(st, x)
	if !alike(left, want) || f != wantF || is != wantIs || e != wantE {
		t.Errorf("Step(%s, %s) = %s, %s, %t, %d, want %s, %s, %t, %d", show(kept), showItem(x), show(left), showList([]api.Field{f}), is, e, show(want), showList([]api.Field{wantF}), wantIs, wantE)
	}
	if !alike(st, kept) {
		t.Errorf("Step changed %s to %s", show(kept), show(st))
	}
	return left
}

// wantWrong holds that beside an error nothing else is told, and the state is as it was.
func wantWrong(t *testing.T, st hdec.State, x repr.Item, want api.Errno) {
	t.Helper()
	wantStep(t, st, x, st, api.Field{}, false, want)
}

// wantTells holds that an item tells a field, and leaves the table alone.
func wantTells(t *testing.T, st hdec.State, x repr.Item, want api.Field) {
	t.Helper()
	wantStep(t, st, x, st, want, true, api.OK)
}

// wantBlock also holds that the arguments stay as they are.
func wantBlock(t *testing.T, st hdec.State, b string, want hdec.State, wantL []api.Field, wantIs bool, wantE api.Errno) hdec.State {
	t.Helper()
	kept, came := clone(st), []byte(b)
	left, l, is, e := hdec.Block(st, came)
	if !alike(left, want) || !slices.Equal(l, wantL) || is != wantIs || e != wantE {
		t.Errorf("Block(%s, %s) = %s, %s, %t, %d, want %s, %s, %t, %d", show(kept), short(b), show(left), showList(l), is, e, show(want), showList(wantL), wantIs, wantE)
	}
	if !alike(st, kept) || string(came) != b {
		t.Errorf("Block changed %s or %s", show(kept), short(b))
	}
	return left
}

func wantWrongBlock(t *testing.T, st hdec.State, b string, want api.Errno) {
	t.Helper()
	wantBlock(t, st, b, st, nil, false, want)
}

// refused are states that may not be, by their errors: where more than one would do, by the one that is named first.
func refused() map[api.Errno][]hdec.State {
	m := map[api.Errno][]hdec.State{
		api.ErrForm: {
			state(most, most, never("a", "b")),
			state(100, 100, field("a", "b"), never("c", "d")),
			state(100, 100, never("", ""), field("a", "b")),
			// They count too much, too, or the Cap is none.
			state(100, 10, never("a", "b")),
			state(99, 100, never("a", "b")),
			state(-1, 100, never("a", "b")),
			state(most+1, 100, never("a", "b")),
			state(-1, 10, field("a", "b"), never("c", "d")),
		},
		api.ErrLong: {
			state(most, 0, field("", "")),
			state(most, 33, field("a", "b")),
			state(100, 67, field("a", "b"), field("c", "d")),
			state(most, most, sized("x", most+1)),
			state(most, most, make([]api.Field, 129)...),
			// The Cap is none, too.
			state(99, 100, sized("x", 101)),
			state(-1, 33, field("a", "b")),
			state(most+1, 33, field("a", "b")),
			state(math.MaxInt64, 0, field("", "")),
		},
		api.ErrRange: {
			state(0, 1), state(most-1, most), state(33, 34, field("a", "b")), state(0, 34, field("a", "b")), state(0, most),
			// The Max is none, whatever the Cap.
			state(-1, -1), state(0, -1), state(most, -1), state(most+1, most+1), state(most, most+1), state(math.MaxInt64, math.MaxInt64),
			state(most, -1, never("a", "b")), state(most, most+1, never("a", "b")), state(most, -1, field("a", "b")),
		},
	}
	for _, n := range far {
		m[api.ErrRange] = append(m[api.ErrRange], state(n, 0), state(n, 34), state(n, most), state(n, 34, field("a", "b")), state(n, n), state(most, n), state(n, n, never("a", "b")))
	}
	return m
}

// wholeOnes are states that may be.
func wholeOnes() []hdec.State {
	return []hdec.State{
		{}, state(1, 0), state(1, 1), state(31, 31), state(most, 0), state(most, most), state(most, most-1), state(most-1, most-1),
		state(32, 32, field("", "")),
		state(40, 34, field("a", "b")),
		state(68, 68, field("a", "b"), field("c", "d")),
		state(most, 80, field("a", "b"), field("c", "d")),
		state(80, 80, field("a", "b"), field("c", "d")),
		state(most, most, field("a", "b"), field("c", "d"), field("a", "b")),
		state(most, most, sized("x", most)),
		state(most, most, sized("x", most-counted), field("", "")),
		state(most, most, make([]api.Field, 128)...),
		state(2000, 1000, field(":path", "/x"), field(":method", "GET"), field("cookie", "a=b"), field("custom-key", "custom-value")),
	}
}

func TestP6_1New(t *testing.T) {
	for n := range most + 1 {
		if st, e := hdec.New(n); !alike(st, state(n, n)) || e != api.OK {
			t.Errorf("New(%d) = %s, %d", n, show(st), e)
		}
	}
	for _, n := range far {
		if st, e := hdec.New(n); !alike(st, hdec.State{}) || e != api.ErrRange {
			t.Errorf("New(%d) = %s, %d, want ErrRange", n, show(st), e)
		}
	}
}

func TestP6_1CheckOfStatesThatMayBe(t *testing.T) {
	for _, st := range wholeOnes() {
		wantCheck(t, st, api.OK)
	}
	for n := range most + 1 {
		wantCheck(t, state(n, n), api.OK)
		wantCheck(t, state(n, 0), api.OK)
		wantCheck(t, state(most, n), api.OK)
	}
}

func TestP6_1CheckOfStatesThatMayNotBe(t *testing.T) {
	for want, l := range refused() {
		for _, st := range l {
			kept := clone(st)
			wantCheck(t, st, want)
			if !alike(st, kept) {
				t.Errorf("Check changed %s", show(kept))
			}
		}
	}
}

// A Cap below the table's Max, the same, and above it.
func TestP6_1CheckOfCaps(t *testing.T) {
	for _, max := range []int{0, 1, 34, 100, most - 1, most} {
		for cap := -2; cap <= most+2; cap++ {
			want := api.ErrRange
			if cap >= max && cap <= most {
				want = api.OK
			}
			wantCheck(t, state(cap, max), want)
			if max >= 34 {
				wantCheck(t, state(cap, max, field("a", "b")), want)
			}
		}
	}
}

func TestP6_1Size(t *testing.T) {
	for _, x := range []struct {
		l    []api.Field
		want int
	}{
		{nil, 0},
		{[]api.Field{}, 0},
		{[]api.Field{{}}, 32},
		{[]api.Field{field("a", "b")}, 34},
		{[]api.Field{never("a", "b")}, 34},
		{[]api.Field{field("a", ""), never("", "b"), field("", "")}, 98},
		{[]api.Field{field("custom-key", "custom-header")}, 55},
		{[]api.Field{field(":authority", "www.example.com"), field("cache-control", "no-cache")}, 110},
		{[]api.Field{field("\u00e4", "\U0001f600")}, 38}, // bytes, not signs
		{[]api.Field{sized("x", mostList)}, mostList},
		{[]api.Field{sized("x", mostList), {}}, mostList + 32},
		{[]api.Field{sized("x", most+1), sized("y", 1<<20)}, most + 1 + 1<<20},
		{make([]api.Field, 1<<16), 1 << 21},
	} {
		kept := slices.Clone(x.l)
		if n := hdec.Size(x.l); n != x.want || !slices.Equal(x.l, kept) {
			t.Errorf("Size(%s) = %d, want %d", showList(x.l), n, x.want)
		}
	}
	for _, f := range static.All() {
		if n := hdec.Size([]api.Field{f, f}); n != 2*static.Size(f) {
			t.Errorf("Size of twice %s = %d", f.Name, n)
		}
	}
}

func TestP6_1Same(t *testing.T) {
	base := state(200, 100, field("a", "b"), field("c", "d"))
	unlike := []hdec.State{
		{},
		base,
		// In Cap or Max.
		state(201, 100, field("a", "b"), field("c", "d")),
		state(-200, 100, field("a", "b"), field("c", "d")),
		state(200+1<<32, 100, field("a", "b"), field("c", "d")),
		state(200, 101, field("a", "b"), field("c", "d")),
		state(200, 100+1<<32, field("a", "b"), field("c", "d")),
		state(100, 200, field("a", "b"), field("c", "d")),
		// In length alone.
		state(200, 100),
		state(200, 100, field("a", "b")),
		state(200, 100, field("c", "d")),
		state(200, 100, field("a", "b"), field("c", "d"), field("a", "b")),
		state(200, 100, field("a", "b"), field("c", "d"), field("", "")),
		// In a field.
		state(200, 100, field("A", "b"), field("c", "d")),
		state(200, 100, field("a", "x"), field("c", "d")),
		state(200, 100, field("a", "b"), field("x", "d")),
		state(200, 100, field("a", "b"), field("c", "")),
		state(200, 100, field("ab", ""), field("c", "d")),
		state(200, 100, field("", "ab"), field("c", "d")),
		state(200, 100, never("a", "b"), field("c", "d")),
		state(200, 100, field("a", "b"), never("c", "d")),
		state(200, 100, field("c", "d"), field("a", "b")),
		state(1, 0), state(0, 1), state(0, 0, field("", "")),
	}
	for i, a := range unlike {
		for j, b := range unlike {
			a, b := clone(a), clone(b)
			if is := hdec.Same(a, b); is != (i == j) || !alike(a, unlike[i]) || !alike(b, unlike[j]) {
				t.Errorf("Same(%s, %s) = %t", show(a), show(b), is)
			}
		}
	}
	if !hdec.Same(state(5, 5), hdec.State{Table: dyntab.Table{Max: 5, List: []api.Field{}}, Cap: 5}) {
		t.Error("none and the empty list are not the same")
	}
	room := state(200, 100, append(make([]api.Field, 0, 9), base.Table.List...)...)
	if !hdec.Same(base, room) {
		t.Error("the spare room makes two states of one")
	}
}

// wrongItems are items that may not be, by repr.Check's errors; most of them would fail otherwise, too.
func wrongItems() map[api.Errno][]repr.Item {
	long := strings.Repeat("x", most+1)
	m := map[api.Errno][]repr.Item{
		api.ErrKind:  {{Kind: 5}, {Kind: 5, Index: 1}, {Kind: 255, Index: 9999, Name: long, Value: long}, {Kind: 6, Index: -1}},
		api.ErrRange: {indexed(0), indexed(-1), indexed(math.MinInt64), indexed(api.MaxInt + 1), indexed(math.MaxInt64), resize(-1), resize(math.MinInt64), resize(api.MaxInt + 1), resize(math.MaxInt64)},
		api.ErrForm: {
			{Kind: repr.Indexed, Index: 1, Name: "a"}, {Kind: repr.Indexed, Index: 1, Value: "a"}, {Kind: repr.Indexed, Index: 9999, Value: "a"},
			{Kind: repr.Resize, Name: "a"}, {Kind: repr.Resize, Value: "a"}, {Kind: repr.Resize, Index: 5000, Value: "a"}, {Kind: repr.Resize, Index: 5000, Name: long},
		},
	}
	for _, kind := range texted {
		m[api.ErrRange] = append(m[api.ErrRange], byPlace(kind, -1, "a"), byPlace(kind, api.MaxInt+1, "a"), byPlace(kind, math.MinInt64, long))
		m[api.ErrForm] = append(m[api.ErrForm], repr.Item{Kind: kind, Index: 1, Name: "a"}, repr.Item{Kind: kind, Index: 9999, Name: "a", Value: "b"}, repr.Item{Kind: kind, Index: 9999, Name: long, Value: long})
		m[api.ErrLong] = append(m[api.ErrLong], byText(kind, long, ""), byText(kind, "", long), byPlace(kind, 1, long), byPlace(kind, 9999, long), byPlace(kind, api.MaxInt, long))
	}
	return m
}

func TestP6_2AnItemThatMayNotBe(t *testing.T) {
	for want, l := range wrongItems() {
		for _, x := range l {
			if repr.Check(x) != want {
				t.Fatalf("%s is not refused by %d", showItem(x), want)
			}
			for _, st := range wholeOnes() {
				wantWrong(t, st, x, want)
			}
		}
	}
}

// The state goes ahead of the item, whatever that would be answered.
func TestP6_2AStateThatMayNotBe(t *testing.T) {
	items := []repr.Item{indexed(1), indexed(62), indexed(9999), resize(0), resize(most), resize(most + 1)}
	for _, kind := range texted {
		items = append(items, byText(kind, "a", "b"), byPlace(kind, 1, "b"), byPlace(kind, 62, "b"), byPlace(kind, 9999, "b"))
	}
	for _, l := range wrongItems() {
		items = append(items, l...)
	}
	for want, l := range refused() {
		for _, st := range l {
			for _, x := range items {
				wantWrong(t, st, x, want)
			}
		}
	}
}

func TestP6_2Resize(t *testing.T) {
	l := []api.Field{sized("a", 40), sized("b", 50), sized("c", 60)}
	for _, cap := range []int{150, 200, 1000, most} {
		st := state(cap, 150, l...)
		for n := range cap + 1 {
			wantStep(t, st, resize(n), state(cap, n, cut(l, n)...), api.Field{}, false, api.OK)
		}
		for _, n := range []int{cap + 1, cap + 2, 2*cap + 1, most + 1, 5000, 1 << 16, api.MaxInt - 1, api.MaxInt} {
			wantWrong(t, st, resize(n), api.ErrRange)
		}
	}
}

// The Cap is the limit, not the Max as it is: to 0 and back, as far as the Cap.
func TestP6_2ResizeToNothingToTheCapAndToOneMore(t *testing.T) {
	for _, st := range wholeOnes() {
		cap := st.Cap
		none := wantStep(t, st, resize(0), state(cap, 0), api.Field{}, false, api.OK)
		wantStep(t, st, resize(cap), state(cap, cap, st.Table.List...), api.Field{}, false, api.OK)
		wantWrong(t, st, resize(cap+1), api.ErrRange)
		// What went does not come back.
		wantStep(t, none, resize(cap), state(cap, cap), api.Field{}, false, api.OK)
		wantWrong(t, none, resize(cap+1), api.ErrRange)
	}
	wantWrong(t, state(99, 50), resize(100), api.ErrRange)
	wantStep(t, state(100, 50), resize(100), state(100, 100), api.Field{}, false, api.OK)
}

func TestP6_2IndexedInBothTables(t *testing.T) {
	for _, st := range wholeOnes() {
		for i, f := range static.All() {
			wantTells(t, st, indexed(i+1), f)
		}
		for i, f := range st.Table.List {
			wantTells(t, st, indexed(62+i), f)
		}
	}
	wantTells(t, state(most, most), indexed(2), field(":method", "GET"))
	wantTells(t, state(most, most), indexed(61), field("www-authenticate", ""))
	st := state(most, 80, field("c", "d"), field("a", "b"))
	wantTells(t, st, indexed(62), field("c", "d"))
	wantTells(t, st, indexed(63), field("a", "b"))
}

func TestP6_2PlacesThatHaveNoField(t *testing.T) {
	for _, st := range wholeOnes() {
		behind := 62 + len(st.Table.List)
		for _, i := range []int{behind, behind + 1, behind + 61, 256 + behind, 1<<16 + 1, 1<<16 + 62, api.MaxInt - 1, api.MaxInt} {
			wantWrong(t, st, indexed(i), api.ErrNone)
			for _, kind := range texted {
				wantWrong(t, st, byPlace(kind, i, ""), api.ErrNone)
				wantWrong(t, st, byPlace(kind, i, "a"), api.ErrNone)
				wantWrong(t, st, byPlace(kind, i, strings.Repeat("x", most)), api.ErrNone)
			}
		}
	}
}

// A name by its place brings no value with it, whatever stands there.
func TestP6_2NamesByTheirPlaces(t *testing.T) {
	for _, st := range wholeOnes() {
		for i, f := range append(static.All(), st.Table.List...) {
			for _, value := range []string{"", "GET", "b", "\x00\xff", strings.Repeat("x", most)} {
				wantTells(t, st, byPlace(repr.Plain, i+1, value), field(f.Name, value))
				wantTells(t, st, byPlace(repr.Never, i+1, value), never(f.Name, value))
				x := byPlace(repr.Adding, i+1, value)
				want, wantF, is, e := modelStep(st, x)
				wantStep(t, st, x, want, wantF, is, e)
				if wantF != field(f.Name, value) || !is || e != api.OK {
					t.Fatalf("the model of %s is wrong", showItem(x))
				}
			}
		}
	}
	st := state(most, 102, field("c", "d"), field("a", "b"))
	wantTells(t, st, byPlace(repr.Plain, 2, ""), field(":method", ""))
	wantTells(t, st, byPlace(repr.Plain, 61, "x"), field("www-authenticate", "x"))
	wantTells(t, st, byPlace(repr.Plain, 62, "x"), field("c", "x"))
	wantTells(t, st, byPlace(repr.Never, 63, "x"), never("a", "x"))
	wantStep(t, st, byPlace(repr.Adding, 63, "x"), state(most, 102, field("a", "x"), field("c", "d"), field("a", "b")), field("a", "x"), true, api.OK)
}

func TestP6_2NamesByTheirTexts(t *testing.T) {
	for _, st := range wholeOnes() {
		for _, name := range []string{"", "a", ":method", ":authority", "A name", "\x00\xff", "\u00e4", strings.Repeat("n", most)} {
			for _, value := range []string{"", "GET", "b", "\x00\xff", strings.Repeat("x", most)} {
				wantTells(t, st, byText(repr.Plain, name, value), field(name, value))
				wantTells(t, st, byText(repr.Never, name, value), never(name, value))
				x := byText(repr.Adding, name, value)
				want, wantF, is, e := modelStep(st, x)
				wantStep(t, st, x, want, wantF, is, e)
			}
		}
	}
}

func TestP6_2AddingPutsItIntoTheTable(t *testing.T) {
	st := state(most, 80)
	st = wantStep(t, st, byText(repr.Adding, "a", "b"), state(most, 80, field("a", "b")), field("a", "b"), true, api.OK)
	st = wantStep(t, st, byText(repr.Adding, "c", "d"), state(most, 80, field("c", "d"), field("a", "b")), field("c", "d"), true, api.OK)
	// The oldest one goes.
	st = wantStep(t, st, byText(repr.Adding, "e", "f"), state(most, 80, field("e", "f"), field("c", "d")), field("e", "f"), true, api.OK)
	wantTells(t, st, indexed(62), field("e", "f"))
	wantWrong(t, st, indexed(64), api.ErrNone)
	// Neither Plain nor Never does.
	wantTells(t, st, byText(repr.Plain, "g", "h"), field("g", "h"))
	wantTells(t, st, byText(repr.Never, "g", "h"), never("g", "h"))
}

func TestP6_2AddingAFieldThatJustFits(t *testing.T) {
	had := []api.Field{field("a", "b"), field("c", "d")}
	for _, n := range []int{68, 100, 500, most} {
		st := state(n, n, had...)
		whole, more, just := sized("x", n), sized("x", n+1), sized("x", n-34)
		wantStep(t, st, byText(repr.Adding, "x", whole.Value), state(n, n, whole), whole, true, api.OK)
		wantStep(t, st, byText(repr.Adding, "x", just.Value), state(n, n, just, had[0]), just, true, api.OK)
		// One that is greater than the table empties it, and is told none the less.
		wantStep(t, st, byText(repr.Adding, "x", more.Value), state(n, n), more, true, api.OK)
	}
	// By a name that goes with its field.
	st := state(70, 70, field("c", "d"), field("name", ""))
	wantStep(t, st, byPlace(repr.Adding, 63, "v"), state(70, 70, field("name", "v")), field("name", "v"), true, api.OK)
	wantStep(t, st, byPlace(repr.Adding, 63, strings.Repeat("v", 35)), state(70, 70), field("name", strings.Repeat("v", 35)), true, api.OK)
	wantStep(t, state(most, 0), byText(repr.Adding, "", ""), state(most, 0), field("", ""), true, api.OK)
	wantStep(t, state(most, 32), byText(repr.Adding, "", ""), state(most, 32, field("", "")), field("", ""), true, api.OK)
	// The Max is the limit, not the Cap.
	wantStep(t, state(most, 33), byText(repr.Adding, "a", "b"), state(most, 33), field("a", "b"), true, api.OK)
}

func TestP6_2AddingTheSameTwice(t *testing.T) {
	f, x := field("a", "b"), byText(repr.Adding, "a", "b")
	st := wantStep(t, state(most, most), x, state(most, most, f), f, true, api.OK)
	st = wantStep(t, st, x, state(most, most, f, f), f, true, api.OK)
	wantStep(t, st, byPlace(repr.Adding, 63, "b"), state(most, most, f, f, f), f, true, api.OK)
	get := field(":method", "GET")
	wantStep(t, st, byPlace(repr.Adding, 2, "GET"), state(most, most, get, f, f), get, true, api.OK)
}

// somewhere is a place in the one table, in the other, or in none.
func somewhere(r *rand.Rand, st hdec.State) int {
	behind := 62 + len(st.Table.List)
	switch r.Intn(8) {
	case 0:
		return behind - 1
	case 1:
		return 1 + r.Intn(61)
	case 2:
		return 61
	case 3:
		return behind + r.Intn(20)/19 // seldom none
	}
	return 1 + r.Intn(behind-1)
}

// anItem is one that may be, and may not be done.
func anItem(r *rand.Rand, st hdec.State) repr.Item {
	kind := uint8(r.Intn(4))
	value := strings.Repeat("v", r.Intn(1+r.Intn(400)))
	switch {
	case kind == repr.Indexed:
		return indexed(somewhere(r, st))
	case r.Intn(2) == 0:
		return byText(kind, "n"+strconv.Itoa(r.Intn(30)), value)
	}
	return byPlace(kind, somewhere(r, st), value)
}

func aResize(r *rand.Rand, st hdec.State) repr.Item {
	if r.Intn(8) == 0 {
		return resize(st.Cap + r.Intn(2))
	}
	return resize(r.Intn(st.Cap + 1))
}

// someItems are a block's: mostly with no Resize behind another item.
func someItems(r *rand.Rand, st hdec.State) []repr.Item {
	var l []repr.Item
	for range r.Intn(6) / 3 * (1 + r.Intn(2)) {
		l = append(l, aResize(r, st))
	}
	for range r.Intn(12) {
		l = append(l, anItem(r, st))
	}
	if r.Intn(20) == 0 {
		l = append(l, aResize(r, st))
	}
	return l
}

func TestP6_2StepIsAsTheModel(t *testing.T) {
	r := rand.New(rand.NewSource(62))
	for range 30 {
		st, _ := hdec.New(r.Intn(most + 1))
		for range 300 {
			x := anItem(r, st)
			if r.Intn(20) == 0 {
				x = aResize(r, st)
			}
			want, f, is, e := modelStep(st, x)
			st = wantStep(t, st, x, want, f, is, e)
		}
	}
}

func TestP6_3TheChaptersExamples(t *testing.T) {
	st, _ := hdec.New(most)
	wantBlock(t, st, "\x82\x86\x84", st, []api.Field{field(":method", "GET"), field(":scheme", "http"), field(":path", "/")}, true, api.OK)
	wantWrongBlock(t, st, "\x3f\xe1\x3f", api.ErrRange)
}

// rfc is RFC 7541, C.2 to C.6: blocks that stand one behind the other, what they tell, and the table that is left.
var rfc = []struct {
	max    int
	blocks []string
	lists  [][]api.Field
	left   []api.Field
}{
	{most, []string{"\x40\x0acustom-key\x0dcustom-header"}, [][]api.Field{{field("custom-key", "custom-header")}}, []api.Field{field("custom-key", "custom-header")}},
	{most, []string{"\x04\x0c/sample/path"}, [][]api.Field{{field(":path", "/sample/path")}}, nil},
	{most, []string{"\x10\x08password\x06secret"}, [][]api.Field{{never("password", "secret")}}, nil},
	{most, []string{
		"\x82\x86\x84\x41\x0fwww.example.com",
		"\x82\x86\x84\xbe\x58\x08no-cache",
		"\x82\x87\x85\xbf\x40\x0acustom-key\x0ccustom-value",
	}, [][]api.Field{
		{field(":method", "GET"), field(":scheme", "http"), field(":path", "/"), field(":authority", "www.example.com")},
		{field(":method", "GET"), field(":scheme", "http"), field(":path", "/"), field(":authority", "www.example.com"), field("cache-control", "no-cache")},
		{field(":method", "GET"), field(":scheme", "https"), field(":path", "/index.html"), field(":authority", "www.example.com"), field("custom-key", "custom-value")},
	}, []api.Field{field("custom-key", "custom-value"), field("cache-control", "no-cache"), field(":authority", "www.example.com")}},
	{256, []string{
		"\x48\x82\x64\x02\x58\x85\xae\xc3\x77\x1a\x4b\x61\x96\xd0\x7a\xbe\x94\x10\x54\xd4\x44\xa8\x20\x05\x95\x04\x0b\x81\x66\xe0\x82\xa6\x2d\x1b\xff\x6e\x91\x9d\x29\xad\x17\x18\x63\xc7\x8f\x0b\x97\xc8\xe9\xae\x82\xae\x43\xd3",
		"\x48\x83\x64\x0e\xff\xc1\xc0\xbf",
		"\x88\xc1\x61\x96\xd0\x7a\xbe\x94\x10\x54\xd4\x44\xa8\x20\x05\x95\x04\x0b\x81\x66\xe0\x84\xa6\x2d\x1b\xff\xc0\x5a\x83\x9b\xd9\xab\x77\xad\x94\xe7\x82\x1d\xd7\xf2\xe6\xc7\xb3\x35\xdf\xdf\xcd\x5b\x39\x60\xd5\xaf\x27\x08\x7f\x36\x72\xc1\xab\x27\x0f\xb5\x29\x1f\x95\x87\x31\x60\x65\xc0\x03\xed\x4e\xe5\xb1\x06\x3d\x50\x07",
	}, [][]api.Field{
		{field(":status", "302"), field("cache-control", "private"), field("date", "Mon, 21 Oct 2013 20:13:21 GMT"), field("location", "https://www.example.com")},
		{field(":status", "307"), field("cache-control", "private"), field("date", "Mon, 21 Oct 2013 20:13:21 GMT"), field("location", "https://www.example.com")},
		{field(":status", "200"), field("cache-control", "private"), field("date", "Mon, 21 Oct 2013 20:13:22 GMT"), field("location", "https://www.example.com"), field("content-encoding", "gzip"), field("set-cookie", "foo=ASDJKHQKBZXOQWEOPIUAXQWEOIU; max-age=3600; version=1")},
	}, []api.Field{field("set-cookie", "foo=ASDJKHQKBZXOQWEOPIUAXQWEOIU; max-age=3600; version=1"), field("content-encoding", "gzip"), field("date", "Mon, 21 Oct 2013 20:13:22 GMT")}},
}

func TestP6_3TheRFCsExamples(t *testing.T) {
	for _, x := range rfc {
		st, _ := hdec.New(x.max)
		for i, b := range x.blocks {
			next, l, is, e := hdec.Block(st, []byte(b))
			if !slices.Equal(l, x.lists[i]) || !is || e != api.OK {
				t.Errorf("%s: %s, %t, %d", short(b), showList(l), is, e)
			}
			st = next
		}
		if want := state(x.max, x.max, x.left...); !alike(st, want) {
			t.Errorf("%s is left, want %s", show(st), show(want))
		}
	}
}

func TestP6_3TheEmptyBlock(t *testing.T) {
	for _, st := range wholeOnes() {
		wantBlock(t, st, "", st, nil, true, api.OK)
		if left, l, is, e := hdec.Block(st, nil); !alike(left, st) || len(l) != 0 || !is || e != api.OK {
			t.Errorf("Block(%s, nil) = %s, %s, %t, %d", show(st), show(left), showList(l), is, e)
		}
	}
}

func TestP6_3BlocksThatBeginWithResizes(t *testing.T) {
	st := state(100, 80, field("a", "b"), field("c", "d"))
	get := []api.Field{field(":method", "GET")}
	for _, x := range []struct {
		sizes []int
		want  hdec.State
	}{
		{nil, st},
		{[]int{80}, st},
		{[]int{0}, state(100, 0)},
		{[]int{34}, state(100, 34, field("a", "b"))},
		{[]int{100}, state(100, 100, st.Table.List...)},
		{[]int{0, 100}, state(100, 100)},
		{[]int{100, 0}, state(100, 0)},
		{[]int{34, 68}, state(100, 68, field("a", "b"))},
		{[]int{67, 68, 100, 34, 80}, state(100, 80, field("a", "b"))},
	} {
		b := ""
		for _, n := range x.sizes {
			b += bytesOf(t, resize(n))
		}
		wantBlock(t, st, b, x.want, nil, true, api.OK)
		wantBlock(t, st, b+"\x82", x.want, get, true, api.OK)
		for _, behind := range []string{"\x20", "\x3f\x31", "\x3f\x46"} {
			wantWrongBlock(t, st, b+"\x82"+behind, api.ErrOrder)
			wantWrongBlock(t, st, b+"\x82\x86"+behind+"\x82", api.ErrOrder)
		}
		wantWrongBlock(t, st, b+"\x3f\x46", api.ErrRange) // 101
	}
}

// Behind an item of each kind, also where that leaves the table alone, or tells an empty field.
func TestP6_3AResizeBehindAnotherItem(t *testing.T) {
	st := state(100, 80, field("", ""))
	for _, x := range []repr.Item{indexed(2), indexed(62), byText(repr.Adding, "", ""), byText(repr.Plain, "", ""), byText(repr.Never, "", ""), byPlace(repr.Plain, 62, ""), byText(repr.Adding, "a", strings.Repeat("b", 100))} {
		b := bytesOf(t, x)
		for _, n := range []int{32, 80, 100} { // within each the table keeps its field
			wantWrongBlock(t, st, b+bytesOf(t, resize(n)), api.ErrOrder)
			wantWrongBlock(t, st, bytesOf(t, resize(n), x, resize(n)), api.ErrOrder)
			wantWrongBlock(t, st, bytesOf(t, resize(n), resize(80), x, resize(n), x), api.ErrOrder)
		}
	}
	// Also where the list is too great already.
	wantWrongBlock(t, st, bytesOf(t, byText(repr.Plain, "x", strings.Repeat("v", 2000)), resize(80)), api.ErrOrder)
}

// Item by item: the first one that can't be done tells the error, and of one item ErrOrder goes first.
func TestP6_3WhichErrorGoesFirst(t *testing.T) {
	st := state(100, 80, field("a", "b"))
	great := bytesOf(t, byText(repr.Plain, "x", strings.Repeat("v", 2000)))
	long := "\x04\xff\x81\x1f" + strings.Repeat("\x00", most/5*5) + "\x07" // a code of 4096 bytes, of more than so many 0
	if l, e := repr.All([]byte(long)); e != api.OK || len(l) != 1 || repr.Check(l[0]) != api.ErrLong {
		t.Fatal("the long one is none")
	}
	for _, x := range []struct {
		b    string
		want api.Errno
	}{
		// repr.All's errors, wherever they stand.
		{"\x80", api.ErrForm}, {"\x82\x80", api.ErrForm}, {"\x41", api.ErrCut}, {"\x82\x41", api.ErrCut}, {"\x40\x01a", api.ErrCut}, {"\xff", api.ErrCut},
		{"\xff\xff\xff\xff\xff\x7f", api.ErrRange}, {"\x04\x7f\x82\x1f", api.ErrLong}, {"\x04\x81\x00", api.ErrForm},
		{"\x82\x20\x80", api.ErrForm}, {"\xff\x00\x80", api.ErrForm}, {"\x3f\x46\x41", api.ErrCut}, {long + "\x80", api.ErrForm}, {great + "\x41", api.ErrCut}, {"\x82\x20\x41", api.ErrCut},
		// ErrOrder.
		{"\x82\x20", api.ErrOrder}, {"\x82\x3f\x46", api.ErrOrder}, {"\x82\x3f\xe2\x1f", api.ErrOrder}, {"\x82\x20\xff\x00", api.ErrOrder}, {great + "\x20", api.ErrOrder}, {"\x82\x20" + long, api.ErrOrder},
		// Step's errors.
		{"\xff\x00", api.ErrNone}, {"\xff\x00\x20", api.ErrNone}, {"\xbf", api.ErrNone}, {"\x82\xbf", api.ErrNone}, {"\x7f\x00\x01a", api.ErrNone}, {"\x0f\x30\x01a", api.ErrNone}, {"\x1f\x30\x01a", api.ErrNone},
		{"\x3f\x46", api.ErrRange}, {"\x3f\x46\xbf", api.ErrRange}, {"\x20\x3f\x46", api.ErrRange}, {"\x3f\x46\x82\x20", api.ErrRange},
		{long, api.ErrLong}, {"\x82" + long, api.ErrLong}, {long + "\x20", api.ErrLong}, {long + "\xbf", api.ErrLong}, {"\xbf" + long, api.ErrNone},
		// A list that is too great is no error: what stands behind may have one.
		{great + "\xbf", api.ErrNone}, {great + great + "\x82\xbf", api.ErrNone},
	} {
		wantWrongBlock(t, st, x.b, x.want)
	}
}

func TestP6_3AStateThatMayNotBe(t *testing.T) {
	for want, l := range refused() {
		for _, st := range l {
			for _, b := range []string{"", "\x82", "\x80", "\x41", "\xff\x00", "\x20", "\x82\x20", "\x40\x01a\x01b", "\x3f\xe2\x1f"} {
				wantWrongBlock(t, st, b, want)
			}
		}
	}
}

// What items ahead of an error have changed is changed back.
func TestP6_3AnErrorLeavesTheStateAsItWas(t *testing.T) {
	sizes := []string{"\x20", "\x3f\x03", "\x3f\x45", "\x20\x3f\x45"} // to 0, 34, 100, and to 0 and 100
	adding := []string{"\x40\x01x\x01y", "\x40\x01x\x01y\x40\x01x\x01y\x40\x01x\x01y", "\x20\x3f\x45\x40\x01x\x01y", "\x7e\x01z", "\x40\x01x\x7f\x00" + strings.Repeat("&", 127)}
	errors := map[string]api.Errno{"\xff\x00": api.ErrNone, "\x82\x20": api.ErrOrder, "\x80": api.ErrForm, "\x41": api.ErrCut, "\x04\x7f\x82\x1f": api.ErrLong, "\xff\xff\xff\xff\xff\x7f": api.ErrRange}
	for _, st := range []hdec.State{state(100, 80, field("a", "b"), field("c", "d")), state(100, 90, field("a", "b"))} {
		for _, change := range slices.Concat(sizes, adding) {
			left, _, is, e := hdec.Block(st, []byte(change))
			if alike(left, st) || !is || e != api.OK {
				t.Fatalf("%s changes nothing: %s, %t, %d", short(change), show(left), is, e)
			}
			for b, want := range errors {
				wantWrongBlock(t, st, change+b, want)
			}
		}
		for _, change := range sizes {
			wantWrongBlock(t, st, change+"\x3f\x46", api.ErrRange)
		}
		for _, change := range adding {
			wantWrongBlock(t, st, change+"\x3f\x46", api.ErrOrder)
		}
	}
}

// Places are those of the table as the items ahead have left it.
func TestP6_3EachItemFindsTheTableThatTheOnesAheadLeft(t *testing.T) {
	a, x, y := field("a", "b"), field("x", "1"), field("y", "2")
	st := state(most, 80, a)
	wantBlock(t, st, "\x40\x01x\x011\xbe\xbf", state(most, 80, x, a), []api.Field{x, x, a}, true, api.OK)
	wantBlock(t, st, "\x40\x01x\x011\x40\x01y\x012\xbe\xbf", state(most, 80, y, x), []api.Field{x, y, y, x}, true, api.OK)
	wantWrongBlock(t, st, "\x40\x01x\x011\x40\x01y\x012\xc0", api.ErrNone)
	wantBlock(t, st, "\x3f\x47\x40\x01x\x011\x40\x01y\x012\xc0", state(most, 102, y, x, a), []api.Field{x, y, a}, true, api.OK)
	wantWrongBlock(t, st, "\x20\xbe", api.ErrNone)
	wantBlock(t, st, "\x7e\x01c\x7e\x01d", state(most, 80, field("a", "d"), field("a", "c")), []api.Field{field("a", "c"), field("a", "d")}, true, api.OK)
}

// lists count so much: in one field, in two, in many, and in as many as there can be.
func lists(n int) [][]api.Field {
	l := [][]api.Field{
		{sized("x", n)},
		{field(strings.Repeat("n", n-counted), "")},
		{sized("x", 500), sized("y", n-500)},
		{field("", ""), sized("y", n-32)},
		append(make([]api.Field, n/counted-1), field("", strings.Repeat("v", n%counted))),
	}
	var many []api.Field
	for i := range 10 {
		many = append(many, sized(strconv.Itoa(i), 90))
	}
	return append(l, append(many, sized("z", n-900)))
}

func TestP6_3ListsThatCountJustAsMuchAsTheyMay(t *testing.T) {
	for n := mostList - 2; n <= mostList+3; n++ {
		for _, l := range lists(n) {
			if count(l) != n {
				t.Fatalf("%s counts %d, not %d", showList(l), count(l), n)
			}
			want := l
			if n > mostList {
				want = nil
			}
			for _, kind := range texted {
				st, b, told := state(most, 2000, field("a", "b")), "", slices.Clone(want)
				left := state(most, 2000, field("a", "b"))
				for _, f := range l {
					b += bytesOf(t, byText(kind, f.Name, f.Value))
					if kind == repr.Adding {
						left.Table.List = cut(slices.Concat([]api.Field{f}, left.Table.List), 2000)
					}
				}
				for i := range told {
					told[i].Never = kind == repr.Never
				}
				wantBlock(t, st, b, left, told, n <= mostList, api.OK)
			}
		}
	}
	// As many of the least as there may be, and one more.
	wantBlock(t, state(most, 0), strings.Repeat("\x00\x00\x00", 32), state(most, 0), make([]api.Field, 32), true, api.OK)
	wantBlock(t, state(most, 0), strings.Repeat("\x00\x00\x00", 33), state(most, 0), nil, false, api.OK)
}

// What a list counts is what its fields do, not the bytes that tell them.
func TestP6_3ListsOfFewBytes(t *testing.T) {
	half := state(most, most, sized("x", 512))
	wantBlock(t, half, "\xbe\xbe", half, []api.Field{half.Table.List[0], half.Table.List[0]}, true, api.OK)
	wantBlock(t, half, "\xbe\xbe\xbe", half, nil, false, api.OK)
	more := state(most, most, sized("x", 513))
	wantBlock(t, more, "\xbe\xbe", more, nil, false, api.OK)
	wantBlock(t, more, "\xbe", more, more.Table.List, true, api.OK)
	// 1024 bytes and more that tell little.
	wantBlock(t, half, "\x04\x7f\xf0\x82\x80\x80\x00"+strings.Repeat("&", 495), half, []api.Field{field(":path", strings.Repeat("&", 495))}, true, api.OK)
	wantBlock(t, half, strings.Repeat("\x20", 2000)+"\x82", state(most, 0), []api.Field{field(":method", "GET")}, true, api.OK)
	wantBlock(t, half, strings.Repeat("\xbe", 100000), half, nil, false, api.OK)
}

// Resizes of the block, and what is added ahead of and behind the place where the list became too great.
func TestP6_3AListThatIsTooGreatStillChangesTheTable(t *testing.T) {
	st := state(200, 200, field("a", "b"))
	great := bytesOf(t, byText(repr.Plain, "x", strings.Repeat("v", 2000)))
	c, d := field("c", "1"), field("d", "2")
	wantBlock(t, st, great, st, nil, false, api.OK)
	wantBlock(t, st, "\x20"+great, state(200, 0), nil, false, api.OK)
	wantBlock(t, st, "\x40\x01c\x011"+great, state(200, 200, c, field("a", "b")), nil, false, api.OK)
	wantBlock(t, st, great+"\x40\x01c\x011", state(200, 200, c, field("a", "b")), nil, false, api.OK)
	left := wantBlock(t, st, "\x3f\x45\x40\x01c\x011"+great+"\x7e\x013\x40\x01d\x012", state(200, 100, d, field("c", "3")), nil, false, api.OK)
	// And the next block stands on that.
	wantBlock(t, left, "\xbe\xbf", left, []api.Field{d, field("c", "3")}, true, api.OK)
}

func TestP6_3BlockIsAsTheModel(t *testing.T) {
	r := rand.New(rand.NewSource(63))
	wrong, great, right := 0, 0, 0
	for range 60 {
		st, _ := hdec.New(r.Intn(most + 1))
		for range 150 {
			items := someItems(r, st)
			want, l, is, e := modelItems(st, items)
			st = wantBlock(t, st, bytesOf(t, items...), want, l, is, e)
			switch {
			case e != api.OK:
				wrong++
			case is:
				right++
			default:
				great++
			}
		}
	}
	if min(wrong, great, right) < 500 {
		t.Errorf("%d wrong ones, %d too great and %d right are too few", wrong, great, right)
	}
}

// Any bytes: those that are no items are answered as repr.All answers them.
func TestP6_3AnyBytes(t *testing.T) {
	r := rand.New(rand.NewSource(64))
	st := state(most, 200, field("a", "b"), field("c", "d"))
	for range 50000 {
		b := make([]byte, r.Intn(12))
		for i := range b {
			b[i] = []byte{0, 1, 2, 5, 0x20, 0x21, 0x3f, 0x40, 0x41, 0x61, 0x7e, 0x80, 0x82, 0xbe, 0xbf, 0xc0, 0xff, byte(r.Intn(256)), byte(r.Intn(256))}[r.Intn(19)]
		}
		items, e := repr.All(b)
		if e != api.OK {
			wantWrongBlock(t, st, string(b), e)
			continue
		}
		want, l, is, e := modelItems(st, items)
		wantBlock(t, st, string(b), want, l, is, e)
	}
}

// numbered puts a number, now and then in more groups than it needs.
func numbered(r *rand.Rand, first byte, bits, n int) []byte {
	b, _ := prefint.Put(first, bits, n)
	if len(b) == 1 {
		return b
	}
	for range r.Intn(7 - len(b)) {
		b[len(b)-1] |= 0x80
		b = append(b, 0)
	}
	return b
}

// written puts a text by code or plainly, whichever is shorter.
func written(r *rand.Rand, s string) []byte {
	if code := huff.Encode(s); r.Intn(2) == 0 && len(code) <= most {
		return append(numbered(r, 0x80, 7, len(code)), code...)
	}
	return append(numbered(r, 0, 7, len(s)), s...)
}

// otherBytes are items' bytes, among those that may be theirs.
func otherBytes(r *rand.Rand, items []repr.Item) string {
	heads := []struct {
		first byte
		bits  int
	}{{0x80, 7}, {0x40, 6}, {0, 4}, {0x10, 4}, {0x20, 5}}
	var b []byte
	for _, x := range items {
		b = append(b, numbered(r, heads[x.Kind].first, heads[x.Kind].bits, x.Index)...)
		if slices.Contains(texted, x.Kind) && x.Index == 0 {
			b = append(b, written(r, x.Name)...)
		}
		if slices.Contains(texted, x.Kind) {
			b = append(b, written(r, x.Value)...)
		}
	}
	return string(b)
}

func TestP6_4TheSameItemsInOtherBytes(t *testing.T) {
	r := rand.New(rand.NewSource(641))
	for range 30 {
		st, _ := hdec.New(r.Intn(most + 1))
		for range 60 {
			items := someItems(r, st)
			want, l, is, e := modelItems(st, items)
			for range 4 {
				wantBlock(t, st, otherBytes(r, items), want, l, is, e)
			}
			st = want
		}
	}
	st := state(most, most)
	for _, b := range []string{
		"\x41\x8c\xf1\xe3\xc2\xe5\xf2\x3a\x6b\xa0\xab\x90\xf4\xff",
		"\x41\x0fwww.example.com",
	} {
		wantBlock(t, st, b, state(most, most, field(":authority", "www.example.com")), []api.Field{field(":authority", "www.example.com")}, true, api.OK)
	}
}

// A name by any place that has it, and by its text: the same fields, and the same state.
func TestP6_4NamesByPlaceAndByText(t *testing.T) {
	st := state(most, 300, field("a", "1"), field(":path", "/x"), field("a", "2"), field("cookie", ""))
	names := map[string][]int{"a": {0, 62, 64}, ":path": {0, 4, 5, 63}, "cookie": {0, 32, 65}, ":status": {0, 8, 9, 10, 11, 12, 13, 14}}
	for name, places := range names {
		for _, kind := range texted {
			for _, value := range []string{"", "1", "/x", strings.Repeat("v", 400)} {
				first, wantL, is, e := hdec.Block(st, []byte(bytesOf(t, byText(kind, name, value))))
				if len(wantL) != 1 || !is || e != api.OK {
					t.Fatalf("%s, %t, %d", showList(wantL), is, e)
				}
				for _, i := range places[1:] {
					wantBlock(t, st, bytesOf(t, byPlace(kind, i, value)), first, wantL, true, api.OK)
				}
			}
		}
	}
}

// A block is its items, one by one; and two blocks, with no Resize in the second one, are one, as far as the state goes.
func TestP6_4BlocksAndSteps(t *testing.T) {
	r := rand.New(rand.NewSource(642))
	for range 40 {
		st, _ := hdec.New(r.Intn(most + 1))
		for range 60 {
			items := someItems(r, st)
			left, _, _, e := hdec.Block(st, []byte(bytesOf(t, items...)))
			if e != api.OK {
				continue
			}
			stepped := st
			for _, x := range items {
				if stepped, _, _, e = hdec.Step(stepped, x); e != api.OK {
					t.Fatalf("Step(%s): %d", showItem(x), e)
				}
			}
			from := r.Intn(len(items) + 1)
			one, _, _, _ := hdec.Block(st, []byte(bytesOf(t, items[:from]...)))
			two, _, _, e := hdec.Block(one, []byte(bytesOf(t, items[from:]...)))
			if !alike(left, stepped) || !alike(left, two) || e != api.OK {
				t.Errorf("%s by a block, %s by steps, %s by two blocks (%d)", show(left), show(stepped), show(two), e)
			}
			st = left
		}
	}
}

func TestP6_4AStateThatMayBeStillMayBe(t *testing.T) {
	r := rand.New(rand.NewSource(643))
	for _, cap := range []int{0, 1, 31, 32, 33, 34, 100, 1000, most - 1, most} {
		st, _ := hdec.New(cap)
		for range 300 {
			switch r.Intn(4) {
			case 0:
				st, _, _, _ = hdec.Block(st, []byte(otherBytes(r, someItems(r, st))))
			case 1:
				st, _, _, _ = hdec.Step(st, aResize(r, st))
			case 2:
				st, _, _, _ = hdec.Step(st, repr.Item{Kind: uint8(r.Intn(6)), Index: r.Intn(5000) - 1, Value: "v"})
			default:
				st, _, _, _ = hdec.Step(st, anItem(r, st))
			}
			wantCheck(t, st, api.OK)
			if st.Cap != cap {
				t.Fatalf("the Cap was %d, and is %d", cap, st.Cap)
			}
		}
	}
}

// spoil writes over all of a list, and over its spare room.
func spoil(l []api.Field) {
	l = l[:cap(l)]
	for i := range l {
		l[i] = never("written", "over")
	}
}

// Also where nothing has changed the table.
func TestP6_2And3WhatGoesOutIsNewMemory(t *testing.T) {
	block := func(b string) func(hdec.State) (hdec.State, []api.Field) {
		return func(st hdec.State) (hdec.State, []api.Field) {
			came := []byte(b)
			st, l, _, _ := hdec.Block(st, came)
			clear(came)
			return st, l
		}
	}
	step := func(x repr.Item) func(hdec.State) (hdec.State, []api.Field) {
		return func(st hdec.State) (hdec.State, []api.Field) {
			st, _, _, _ = hdec.Step(st, x)
			return st, nil
		}
	}
	for name, do := range map[string]func(hdec.State) (hdec.State, []api.Field){
		"Block of nothing":         block(""),
		"Block of Indexed":         block("\x82\xbe"),
		"Block of Plain and Never": block("\x00\x01a\x01b\x10\x01c\x01d"),
		"Block of Adding":          block("\x40\x01a\x01b\x40\x01c\x01d\xbf"),
		"Block of Resize":          block("\x3f\x45"),
		"Block of the same Resize": block("\x3f\xa9\x01\x82"),
		"Block of a great list":    block(strings.Repeat("\x82", 30)),
		"Step of Indexed":          step(indexed(62)),
		"Step of Plain":            step(byPlace(repr.Plain, 62, "v")),
		"Step of Never":            step(byText(repr.Never, "n", "v")),
		"Step of Adding":           step(byText(repr.Adding, "n", "v")),
		"Step of Resize":           step(resize(100)),
		"Step of the same Resize":  step(resize(200)),
	} {
		for had := 1; had < 6; had++ {
			room := []api.Field{field("a", "b"), field("c", "d"), field("e", "f"), field("g", "h"), field("i", "j"), field("behind", "1"), field("behind", "2")}
			kept := slices.Clone(room)
			st := state(200, 200, room[:had]...)
			left, l := do(st)
			other, otherL := do(st)
			told, toldL := clone(left), slices.Clone(l)
			spoil(other.Table.List)
			spoil(otherL)
			if !alike(left, told) || !slices.Equal(l, toldL) {
				t.Errorf("%s: two answers share their memory", name)
			}
			spoil(l)
			if !alike(left, told) {
				t.Errorf("%s: the state and the fields share their memory", name)
			}
			spoil(left.Table.List)
			if !slices.Equal(room, kept) {
				t.Errorf("%s shares its memory with what came in, or changed it", name)
			}
			left, l = do(st)
			spoil(room)
			if !alike(left, told) || !slices.Equal(l, toldL) {
				t.Errorf("%s keeps what came in", name)
			}
		}
	}
}
