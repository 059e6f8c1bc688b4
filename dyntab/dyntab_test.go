package dyntab_test

import (
	"math"
	"math/rand"
	"slices"
	"strconv"
	"strings"
	"testing"

	"footman/api"
	"footman/dyntab"
	"footman/static"
)

const (
	most    = 4096
	counted = 32 // what a field counts beside its bytes
)

// far are numbers that are no table's Max.
var far = []int{
	-1, -2, -31, -32, -4095, -4096, -4097, math.MinInt32, math.MinInt32 - 1, -1 << 32, -1<<32 + 1, math.MinInt64, math.MinInt64 + 1, math.MinInt64 + 4096,
	4097, 4098, 5000, 8192, 1 << 16, 1<<16 + 4096, api.MaxInt, math.MaxInt32, 1 << 32, 1<<32 + 1, 1<<32 + 4096, 1 << 40, math.MaxInt64 - 1, math.MaxInt64,
}

func field(name, value string) api.Field { return api.Field{Name: name, Value: value} }

func never(name, value string) api.Field { return api.Field{Name: name, Value: value, Never: true} }

// sized is a field that counts so much; what comes ahead tells it from others.
func sized(ahead string, n int) api.Field {
	return field(ahead, strings.Repeat("v", n-counted-len(ahead)))
}

func table(max int, l ...api.Field) dyntab.Table { return dyntab.Table{Max: max, List: l} }

func clone(t dyntab.Table) dyntab.Table {
	return dyntab.Table{Max: t.Max, List: append([]api.Field(nil), t.List...)}
}

func alike(a, b dyntab.Table) bool { return a.Max == b.Max && slices.Equal(a.List, b.List) }

func count(l []api.Field) int {
	n := 0
	for _, f := range l {
		n += counted + len(f.Name) + len(f.Value)
	}
	return n
}

// cut takes the oldest fields off, one by one, as long as the rest counts more than there may be.
func cut(l []api.Field, most int) []api.Field {
	l = slices.Clone(l)
	for len(l) > 0 && count(l) > most {
		l = l[:len(l)-1]
	}
	return l
}

// added is what Add must tell of a table that may be.
func added(t dyntab.Table, f api.Field) dyntab.Table {
	f.Never = false
	n := count([]api.Field{f})
	l := cut(t.List, t.Max-n)
	if n <= t.Max {
		l = slices.Insert(l, 0, f)
	}
	return table(t.Max, l...)
}

// show keeps what a failure tells short.
func show(t dyntab.Table) string {
	s := "{" + strconv.Itoa(t.Max)
	for _, f := range t.List {
		s += " " + strconv.Quote(f.Name[:min(len(f.Name), 12)]) + "(" + strconv.Itoa(len(f.Name)) + ")=" + strconv.Quote(f.Value[:min(len(f.Value), 12)]) + "(" + strconv.Itoa(len(f.Value)) + ")"
		if f.Never {
			s += " never"
		}
	}
	return s + "}"
}

func wantCheck(t *testing.T, x dyntab.Table, want api.Errno) {
	t.Helper()
	if e := dyntab.Check(x); e != want {
		t.Errorf("Check(%s) = %d, want %d", show(x), e, want)
	}
}

// wantAdd also holds that the argument stays as it is.
func wantAdd(t *testing.T, x dyntab.Table, f api.Field, want dyntab.Table) dyntab.Table {
	t.Helper()
	kept := clone(x)
	y := dyntab.Add(x, f)
	if !alike(y, want) {
		t.Errorf("Add(%s, %s) = %s, want %s", show(kept), show(table(0, f)), show(y), show(want))
	}
	if !alike(x, kept) {
		t.Errorf("Add changed %s to %s", show(kept), show(x))
	}
	return y
}

func wantResize(t *testing.T, x dyntab.Table, n int, want dyntab.Table, wantE api.Errno) dyntab.Table {
	t.Helper()
	kept := clone(x)
	y, e := dyntab.Resize(x, n)
	if !alike(y, want) || e != wantE {
		t.Errorf("Resize(%s, %d) = %s, %d, want %s, %d", show(kept), n, show(y), e, show(want), wantE)
	}
	if !alike(x, kept) {
		t.Errorf("Resize changed %s to %s", show(kept), show(x))
	}
	return y
}

func wantAt(t *testing.T, x dyntab.Table, i int, want api.Field, is bool) {
	t.Helper()
	if f, ok := dyntab.At(x, i); f != want || ok != is {
		t.Errorf("At(%s, %d) = %+v, %t, want %+v, %t", show(x), i, f, ok, want, is)
	}
}

func wantFind(t *testing.T, x dyntab.Table, name, value string, want int, is bool) {
	t.Helper()
	if i, ok := dyntab.Find(x, name, value); i != want || ok != is {
		t.Errorf("Find(%s, %q, %q) = %d, %t, want %d, %t", show(x), name, value, i, ok, want, is)
	}
}

// refused are tables that may not be, by their errors.
func refused() map[api.Errno][]dyntab.Table {
	full, more := sized("f", 100), sized("m", 101)
	m := map[api.Errno][]dyntab.Table{
		api.ErrForm: {
			table(100, never("a", "b")),
			table(most, field("a", "b"), field("c", "d"), never("e", "f")),
			table(most, never("a", "b"), field("c", "d"), field("e", "f")),
			table(most, field("a", "b"), never("", ""), field("e", "f")),
			table(counted, never("", "")),
			// These count too much, too.
			table(0, never("", "")),
			table(33, never("a", "b")),
			table(100, field("a", "b"), never("c", "d"), full),
		},
		api.ErrLong: {
			table(0, field("", "")),
			table(31, field("", "")),
			table(33, field("a", "b")),
			table(33, field("ab", "")),
			table(67, field("a", "b"), field("c", "d")),
			table(100, more),
			table(100, full, field("", "")),
			table(most, sized("x", most+1)),
			table(most, sized("x", most), field("", "")),
			table(most, field("", strings.Repeat("v", 1<<20))),
			table(most, make([]api.Field, 129)...),
			table(most, make([]api.Field, 1<<16)...),
		},
	}
	for _, n := range far {
		m[api.ErrRange] = append(m[api.ErrRange], table(n),
			table(n, field("a", "b")),
			table(n, never("a", "b")),
			table(n, sized("x", most+1)),
			table(n, field("c", "d"), never("x", strings.Repeat("v", most))))
	}
	return m
}

// wholeOnes are tables that may be.
func wholeOnes() []dyntab.Table {
	return []dyntab.Table{
		{}, table(1), table(31), table(most), {Max: 5, List: []api.Field{}},
		table(32, field("", "")),
		table(34, field("a", "b")),
		table(68, field("a", "b"), field("c", "d")),
		table(most, field("a", "b"), field("c", "d"), field("a", "b")),
		table(most, sized("x", most)),
		table(most, sized("x", most-counted), field("", "")),
		table(most, field("", ""), sized("x", most-counted)),
		table(most, make([]api.Field, 128)...),
		table(most, field(":path", "/x"), field(":method", "GET"), field("cookie", "a=b"), field("custom-key", "custom-value")),
	}
}

func TestP4_1New(t *testing.T) {
	for n := range most + 1 {
		if x, e := dyntab.New(n); x.Max != n || len(x.List) != 0 || e != api.OK {
			t.Errorf("New(%d) = %s, %d", n, show(x), e)
		}
	}
	for _, n := range far {
		if x, e := dyntab.New(n); x.Max != 0 || len(x.List) != 0 || e != api.ErrRange {
			t.Errorf("New(%d) = %s, %d, want ErrRange", n, show(x), e)
		}
	}
}

func TestP4_1CheckOfTablesThatMayBe(t *testing.T) {
	for _, x := range wholeOnes() {
		wantCheck(t, x, api.OK)
	}
	for n := range most + 1 {
		wantCheck(t, table(n), api.OK)
	}
}

// Where more than one error would do, refused has it under the one that is named first.
func TestP4_1CheckOfTablesThatMayNotBe(t *testing.T) {
	for want, l := range refused() {
		for _, x := range l {
			kept := clone(x)
			wantCheck(t, x, want)
			if !alike(x, kept) {
				t.Errorf("Check changed %s", show(kept))
			}
		}
	}
}

func TestP4_1CheckOfAFullTableAndOneByteMore(t *testing.T) {
	for n := counted; n <= most; n += 61 {
		wantCheck(t, table(n, sized("", n)), api.OK)
		wantCheck(t, table(n-1, sized("", n)), api.ErrLong)
		wantCheck(t, table(n, field(strings.Repeat("n", n-counted), "")), api.OK)
		wantCheck(t, table(n, field(strings.Repeat("n", n-counted+1), "")), api.ErrLong)
	}
	l := []api.Field{field("a", "b"), field("custom-key", "custom-header"), field("", ""), sized("x", 1000)}
	n := count(l)
	wantCheck(t, table(n, l...), api.OK)
	wantCheck(t, table(n-1, l...), api.ErrLong)
	for i := range l {
		longer := slices.Clone(l)
		longer[i].Value += "v"
		wantCheck(t, table(n, longer...), api.ErrLong)
		wantCheck(t, table(n+1, longer...), api.OK)
	}
}

func TestP4_1Size(t *testing.T) {
	for _, x := range []struct {
		t    dyntab.Table
		want int
	}{
		{dyntab.Table{}, 0},
		{table(most), 0},
		{table(most, field("", "")), 32},
		{table(most, field("a", "b")), 34},
		{table(80, field("c", "d"), field("a", "b")), 68},
		{table(most, field("custom-key", "custom-header")), 55},
		{table(most, field("\u00e4", "\U0001f600")), 38}, // bytes, not signs
		{table(most, sized("x", most)), most},
		{table(most, make([]api.Field, 128)...), most},
		// Of tables that may not be, too.
		{table(-1, field("a", "b")), 34},
		{table(0, never("a", "b"), field("", "")), 66},
		{table(10, sized("x", most), sized("y", most+1)), 2*most + 1},
		{table(math.MaxInt64, make([]api.Field, 1<<16)...), 1 << 21},
	} {
		if n := dyntab.Size(x.t); n != x.want {
			t.Errorf("Size(%.300s) = %d, want %d", show(x.t), n, x.want)
		}
	}
}

func TestP4_1Same(t *testing.T) {
	base := table(200, field("a", "b"), field("c", "d"), field("e", "f"))
	others := []dyntab.Table{
		{},
		table(200),
		// In Max alone.
		table(199, base.List...), table(201, base.List...), table(-200, base.List...), table(200+1<<32, base.List...),
		// In length alone.
		table(200, base.List[:2]...), table(200, base.List[1:]...), table(200, append(clone(base).List, field("e", "f"))...), table(200, append(clone(base).List, field("", ""))...),
		// In their order.
		table(200, field("c", "d"), field("a", "b"), field("e", "f")), table(200, field("e", "f"), field("c", "d"), field("a", "b")),
		// In where a name ends.
		table(200, field("ab", ""), field("c", "d"), field("e", "f")), table(200, field("", "ab"), field("c", "d"), field("e", "f")), table(200, field("b", "a"), field("c", "d"), field("e", "f")),
	}
	for i := range base.List {
		for _, change := range []func(*api.Field){
			func(f *api.Field) { *f = field("x", "y") },
			func(f *api.Field) { f.Name += "x" },
			func(f *api.Field) { f.Name = "x" },
			func(f *api.Field) { f.Name = strings.ToUpper(f.Name) },
			func(f *api.Field) { f.Value += "\x00" },
			func(f *api.Field) { f.Value = "" },
			func(f *api.Field) { f.Never = true },
		} {
			other := clone(base)
			change(&other.List[i])
			others = append(others, other)
		}
	}
	for i, a := range others {
		if !dyntab.Same(a, clone(a)) {
			t.Errorf("%s is not the same as itself", show(a))
		}
		if dyntab.Same(a, base) || dyntab.Same(base, a) {
			t.Errorf("%s is the same as %s", show(a), show(base))
		}
		for _, b := range others[:i] {
			if dyntab.Same(a, b) || dyntab.Same(b, a) {
				t.Errorf("%s is the same as %s", show(a), show(b))
			}
		}
	}
}

func TestP4_1SameOfEmptyListsAndOfTablesThatMayNotBe(t *testing.T) {
	for _, n := range []int{0, 1, most, -1, most + 1} {
		a, b := dyntab.Table{Max: n}, dyntab.Table{Max: n, List: make([]api.Field, 0, 4)}
		if !dyntab.Same(a, b) || !dyntab.Same(b, a) {
			t.Errorf("an empty list and none are not the same, of Max %d", n)
		}
	}
	for _, l := range refused() {
		for _, x := range l {
			if !dyntab.Same(x, clone(x)) {
				t.Errorf("%.300s is not the same as itself", show(x))
			}
		}
	}
}

func TestTheChaptersExample(t *testing.T) {
	x, _ := dyntab.New(80)
	x = dyntab.Add(dyntab.Add(x, field("a", "b")), field("c", "d"))
	wantAt(t, x, 62, field("c", "d"), true)
	wantAt(t, x, 63, field("a", "b"), true)
	x = dyntab.Add(x, field("e", "f"))
	wantAt(t, x, 62, field("e", "f"), true)
	wantAt(t, x, 63, field("c", "d"), true)
	wantAt(t, x, 64, api.Field{}, false)
	wantFind(t, x, "a", "b", 0, false)
}

func TestP4_2AddAheadOfAll(t *testing.T) {
	x := table(most)
	var want []api.Field
	for i := range 60 {
		f := field("name-"+strconv.Itoa(i), "value-"+strconv.Itoa(i*i))
		want = slices.Insert(want, 0, f)
		x = wantAdd(t, x, f, table(most, want...))
	}
}

func TestP4_2AddTakesTheOldestOffAsFewAsMustBe(t *testing.T) {
	a, b, c := sized("a", 40), sized("b", 50), sized("c", 60)
	x := table(200, a, b, c)
	for n, want := range map[int]int{32: 3, 49: 3, 50: 3, 51: 2, 109: 2, 110: 2, 111: 1, 159: 1, 160: 1, 161: 0, 199: 0, 200: 0} {
		f := sized("", n)
		wantAdd(t, x, f, table(200, append([]api.Field{f}, x.List[:want]...)...))
	}
}

// The oldest goes even if another one that went alone would leave room, and nothing comes back that is small enough.
func TestP4_2AddTakesOffInOrderAlone(t *testing.T) {
	small, great := field("s", ""), sized("g", 200)
	wantAdd(t, table(300, great, small), sized("n", 100), table(300, sized("n", 100), great))
	wantAdd(t, table(300, great, small, small), sized("n", 101), table(300, sized("n", 101)))
	wantAdd(t, table(300, small, great), sized("n", 68), table(300, sized("n", 68), small))
	wantAdd(t, table(300, small, great, small), sized("n", 101), table(300, sized("n", 101), small))
}

func TestP4_2AddOfAJustFullTable(t *testing.T) {
	a, b := sized("a", most/2), sized("b", most/2)
	x := wantAdd(t, table(most, a), b, table(most, b, a))
	wantAdd(t, x, field("", ""), table(most, field("", ""), b))
	wantAdd(t, table(most, a), sized("b", most/2+1), table(most, sized("b", most/2+1)))
	wantAdd(t, table(most, a, field("", "")), sized("b", most/2-counted), table(most, sized("b", most/2-counted), a, field("", "")))
	wantAdd(t, table(most, a, field("", "")), sized("b", most/2-counted+1), table(most, sized("b", most/2-counted+1), a))
	wantAdd(t, table(most, make([]api.Field, 128)...), field("", ""), table(most, make([]api.Field, 128)...))
	wantAdd(t, table(most, make([]api.Field, 127)...), field("", ""), table(most, make([]api.Field, 128)...))
}

func TestP4_2AddOfAFieldAsGreatAsTheTable(t *testing.T) {
	for _, n := range []int{32, 33, 34, 100, 4095, 4096} {
		for _, x := range []dyntab.Table{table(n), table(n, field("", "")), table(n, cut([]api.Field{field("a", "b"), field("c", "d"), field("e", "f")}, n)...)} {
			wantAdd(t, x, sized("", n), table(n, sized("", n)))
			wantAdd(t, x, field(strings.Repeat("n", n-counted), ""), table(n, field(strings.Repeat("n", n-counted), "")))
		}
	}
}

func TestP4_2AddOfAFieldThatIsTooGreat(t *testing.T) {
	for _, x := range wholeOnes() {
		for _, n := range []int{x.Max + 1, x.Max + 2, x.Max + 100, 2*x.Max + 1, most + 1, 1 << 20} {
			if n >= counted+1 && n > x.Max {
				wantAdd(t, x, sized("", n), table(x.Max))
				wantAdd(t, x, field(strings.Repeat("n", n-counted), ""), table(x.Max))
				wantAdd(t, x, never("n", strings.Repeat("v", n-counted-1)), table(x.Max))
			}
		}
	}
	for n := range counted {
		wantAdd(t, table(n), field("", ""), table(n))
	}
	// One that comes behind finds an empty table.
	x := dyntab.Add(table(68, field("a", "b"), field("c", "d")), sized("x", 69))
	wantAdd(t, x, field("e", "f"), table(68, field("e", "f")))
}

func TestP4_2AddMakesNeverFalse(t *testing.T) {
	wantAdd(t, table(most), never("a", "b"), table(most, field("a", "b")))
	wantAdd(t, table(80, field("c", "d"), field("e", "f")), never("a", "b"), table(80, field("a", "b"), field("c", "d")))
	wantAdd(t, table(34), never("a", "b"), table(34, field("a", "b")))
	x := dyntab.Add(table(most), never("a", "b"))
	wantCheck(t, x, api.OK)
	wantAt(t, x, 62, field("a", "b"), true)
}

func TestP4_2AddOfAFieldThatIsThereAlready(t *testing.T) {
	f := field("a", "b")
	wantAdd(t, table(most, f), f, table(most, f, f))
	wantAdd(t, table(68, f, field("c", "d")), f, table(68, f, f))
	wantAdd(t, table(most), field(":method", "GET"), table(most, field(":method", "GET")))
}

// Every text may stand in a table: bytes, not signs, are counted.
func TestP4_2AddOfTextsOfAnyBytes(t *testing.T) {
	for _, s := range []string{"", "\x00", "\xff", "\xc3", "\u00e4", "\U0001f600", "\r\n", strings.Repeat("\x00", 100)} {
		f := field(s, s)
		n := counted + 2*len(s)
		wantAdd(t, table(n), f, table(n, f))
		wantAdd(t, table(n-1), f, table(n-1))
	}
}

func TestP4_2AddAsTheModel(t *testing.T) {
	r := rand.New(rand.NewSource(4))
	for _, n := range []int{0, 31, 32, 33, 80, 200, 1000, most} {
		x := table(n)
		for range 300 {
			f := field(strings.Repeat("n", r.Intn(20)), strings.Repeat("v", r.Intn(1+r.Intn(n+60))))
			f.Never = r.Intn(4) == 0
			x = wantAdd(t, x, f, added(x, f))
		}
	}
}

func TestP4_2Resize(t *testing.T) {
	x := table(200, sized("a", 40), sized("b", 50), sized("c", 60))
	for n := range most + 1 {
		want := 0
		switch {
		case n >= 150:
			want = 3
		case n >= 90:
			want = 2
		case n >= 40:
			want = 1
		}
		wantResize(t, x, n, table(n, x.List[:want]...), api.OK)
	}
}

func TestP4_2ResizeOfTablesThatMayBe(t *testing.T) {
	for _, x := range wholeOnes() {
		for _, n := range []int{0, 1, 31, 32, 33, 34, 67, 68, 69, 100, count(x.List) - 1, count(x.List), count(x.List) + 1, x.Max - 1, x.Max, x.Max + 1, 4064, 4095, 4096} {
			if n >= 0 && n <= most {
				wantResize(t, x, n, table(n, cut(x.List, n)...), api.OK)
			}
		}
	}
}

func TestP4_2ResizeKeepsNoSmallOneBehindAGreatOne(t *testing.T) {
	small, great := field("s", ""), sized("g", 200)
	wantResize(t, table(300, small, great, small), 100, table(100, small), api.OK)
	wantResize(t, table(300, great, small, small), 199, table(199), api.OK)
	wantResize(t, table(300, great, small, small), 0, table(0), api.OK)
}

func TestP4_2ResizeOutOfRange(t *testing.T) {
	for _, x := range wholeOnes() {
		for _, n := range far {
			wantResize(t, x, n, x, api.ErrRange)
		}
	}
}

func TestP4_2ResizeStepByStepAndAtOnce(t *testing.T) {
	r := rand.New(rand.NewSource(11))
	x := table(most)
	for range 100 {
		x = dyntab.Add(x, field(strings.Repeat("n", r.Intn(30)), strings.Repeat("v", r.Intn(60))))
	}
	y := x
	for n := most; n >= 0; n-- {
		y = wantResize(t, y, n, table(n, cut(x.List, n)...), api.OK)
		wantResize(t, x, n, y, api.OK)
	}
	// What went does not come back.
	wantResize(t, y, most, table(most), api.OK)
	half := wantResize(t, x, most/2, table(most/2, cut(x.List, most/2)...), api.OK)
	wantResize(t, half, most, table(most, half.List...), api.OK)
}

func TestP4_2ResizeGivesAddItsRoom(t *testing.T) {
	x := table(68, field("a", "b"), field("c", "d"))
	x = wantResize(t, x, 102, table(102, x.List...), api.OK)
	x = wantAdd(t, x, field("e", "f"), table(102, field("e", "f"), field("a", "b"), field("c", "d")))
	x = wantResize(t, x, 67, table(67, field("e", "f")), api.OK)
	wantAdd(t, x, field("g", "h"), table(67, field("g", "h")))
}

func TestP4_2TablesThatMayNotBeStayAsTheyAre(t *testing.T) {
	for want, l := range refused() {
		for _, x := range l {
			for _, f := range []api.Field{{}, field("z", ""), never("z", "y"), sized("z", most), sized("z", most+1)} {
				wantAdd(t, x, f, x)
			}
			for _, n := range []int{0, 32, 68, 4096, -1, 4097, math.MinInt64, math.MaxInt64} {
				wantResize(t, x, n, x, want)
			}
		}
	}
}

// fill writes over all of a list, and over its spare room.
func fill(l []api.Field) {
	l = l[:cap(l)]
	for i := range l {
		l[i] = never("written", "over")
	}
}

func TestP4_2WhatCameInStaysAndWhatGoesOutIsNewMemory(t *testing.T) {
	makes := map[string]func(dyntab.Table) dyntab.Table{
		"Add":                 func(x dyntab.Table) dyntab.Table { return dyntab.Add(x, field("n", "v")) },
		"Add of a great one":  func(x dyntab.Table) dyntab.Table { return dyntab.Add(x, sized("n", 150)) },
		"Add of too great":    func(x dyntab.Table) dyntab.Table { return dyntab.Add(x, sized("n", 1000)) },
		"Resize to the same":  func(x dyntab.Table) dyntab.Table { x, _ = dyntab.Resize(x, x.Max); return x },
		"Resize to more":      func(x dyntab.Table) dyntab.Table { x, _ = dyntab.Resize(x, most); return x },
		"Resize to less":      func(x dyntab.Table) dyntab.Table { x, _ = dyntab.Resize(x, 70); return x },
		"Resize to nothing":   func(x dyntab.Table) dyntab.Table { x, _ = dyntab.Resize(x, 0); return x },
		"New, whatever comes": func(dyntab.Table) dyntab.Table { x, _ := dyntab.New(200); return x },
	}
	for name, make := range makes {
		for had := range 6 {
			room := []api.Field{field("a", "b"), field("c", "d"), field("e", "f"), field("g", "h"), field("i", "j"), field("behind", "1"), field("behind", "2")}
			kept := slices.Clone(room)
			x := table(200, room[:had]...)
			y, other := make(x), make(x)
			if !slices.Equal(room, kept) {
				t.Errorf("%s of %d fields changed what came in: %+v", name, had, room)
			}
			told := clone(y)
			fill(other.List)
			if !alike(y, told) || !slices.Equal(room, kept) {
				t.Errorf("%s of %d fields: two answers share their memory", name, had)
			}
			fill(y.List)
			if !slices.Equal(room, kept) {
				t.Errorf("%s of %d fields shares its memory with what came in", name, had)
			}
			y = make(x)
			fill(room)
			if !alike(y, told) {
				t.Errorf("%s of %d fields keeps what came in", name, had)
			}
		}
	}
}

func TestP4_3AtOfTheStaticTable(t *testing.T) {
	for _, x := range append(wholeOnes(), table(-1), table(99, never("a", "b"))) {
		for i := 1; i <= 61; i++ {
			want, _ := static.At(i)
			wantAt(t, x, i, want, true)
		}
	}
	wantAt(t, dyntab.Table{}, 1, field(":authority", ""), true)
	wantAt(t, dyntab.Table{}, 2, field(":method", "GET"), true)
	wantAt(t, dyntab.Table{}, 61, field("www-authenticate", ""), true)
}

func TestP4_3AtOfTheTableThatChanges(t *testing.T) {
	for _, x := range wholeOnes() {
		for i, f := range x.List {
			wantAt(t, x, 62+i, f, true)
		}
		wantAt(t, x, 62+len(x.List), api.Field{}, false)
		wantAt(t, x, 63+len(x.List), api.Field{}, false)
	}
	// A table that may not be has its fields, too, as they stand there.
	wantAt(t, table(0, field("a", "b"), never("c", "d")), 62, field("a", "b"), true)
	wantAt(t, table(0, field("a", "b"), never("c", "d")), 63, never("c", "d"), true)
	wantAt(t, table(-1, field("a", "b")), 63, api.Field{}, false)
}

func TestP4_3AtWhereNothingIs(t *testing.T) {
	for _, x := range wholeOnes() {
		for _, i := range []int{
			0, -1, -2, -61, -62, -63, -128, math.MinInt32, math.MinInt64, math.MinInt64 + 1, math.MinInt64 + 61, math.MinInt64 + 62, math.MinInt64 + 63,
			62 + 129, 256 + 62, 1<<16 + 62, math.MaxInt32, 1 << 32, 1<<32 + 1, 1<<32 + 62, 1 << 40, math.MaxInt64 - 62, math.MaxInt64 - 1, math.MaxInt64,
		} {
			wantAt(t, x, i, api.Field{}, false)
		}
	}
}

func TestP4_3FindInTheStaticTable(t *testing.T) {
	for _, x := range wholeOnes() {
		for i, f := range static.All() {
			wantFind(t, x, f.Name, f.Value, i+1, true)
		}
	}
}

func TestP4_3FindInTheTableThatChanges(t *testing.T) {
	x := table(most, field("a", "1"), field("b", "1"), field("a", "2"), field("b", "2"), field("a", "1"), field("c", ""), field("", "e"), field("", ""))
	for _, y := range []struct {
		name, value string
		want        int
		is          bool
	}{
		{"a", "1", 62, true}, {"b", "1", 63, true}, {"a", "2", 64, true}, {"b", "2", 65, true}, {"c", "", 67, true}, {"", "e", 68, true}, {"", "", 69, true},
		{"a", "3", 62, false}, {"a", "", 62, false}, {"b", "3", 63, false}, {"c", "1", 67, false}, {"", "x", 68, false},
		{"d", "", 0, false}, {"d", "1", 0, false}, {"A", "1", 0, false}, {"a ", "1", 0, false}, {"ab", "1", 0, false}, {"1", "a", 0, false}, {"\x00", "e", 0, false},
	} {
		wantFind(t, x, y.name, y.value, y.want, y.is)
	}
}

// A name that both tables have: a value that only one of them has is found there; one that neither has, at the static table's place.
func TestP4_3FindOfANameThatBothTablesHave(t *testing.T) {
	x := table(most, field(":path", "/x"), field(":method", "PUT"), field(":path", "/"), field(":method", "GET"), field("cookie", "a=b"), field("cookie", ""), field(":status", "429"), field(":path", "/x"), field("accept-encoding", "gzip"), field("custom", ":path"))
	for _, y := range []struct {
		name, value string
		want        int
		is          bool
	}{
		{":path", "/x", 62, true}, {":method", "PUT", 63, true}, {"cookie", "a=b", 66, true}, {":status", "429", 68, true}, {"accept-encoding", "gzip", 70, true},
		{":path", "/", 4, true}, {":path", "/index.html", 5, true}, {":method", "GET", 2, true}, {":method", "POST", 3, true}, {"cookie", "", 32, true}, {":status", "500", 14, true}, {"accept-encoding", "gzip, deflate", 16, true},
		{":path", "/y", 4, false}, {":path", "", 4, false}, {":path", "PUT", 4, false}, {":method", "HEAD", 2, false}, {":method", "/x", 2, false}, {"cookie", "c=d", 32, false}, {":status", "503", 8, false}, {"accept-encoding", "br", 16, false},
		{"custom", ":path", 71, true}, {"custom", "/x", 71, false}, {"host", "", 38, true}, {"host", "a", 38, false}, {"other", "/x", 0, false},
	} {
		wantFind(t, x, y.name, y.value, y.want, y.is)
	}
	none := table(most)
	wantFind(t, none, ":path", "/x", 4, false)
	wantFind(t, none, "custom", ":path", 0, false)
}

// Find goes by name and value alone, also in tables that may not be.
func TestP4_3FindOfATableThatMayNotBe(t *testing.T) {
	x := table(0, never("a", "b"), field("a", "c"))
	wantFind(t, x, "a", "b", 62, true)
	wantFind(t, x, "a", "c", 63, true)
	wantFind(t, x, "a", "d", 62, false)
	wantFind(t, x, ":method", "POST", 3, true)
}

// Of all names and values near those of a table, what is found is what a list gone through place by place has first.
func TestP4_3FindAsTheModel(t *testing.T) {
	r := rand.New(rand.NewSource(43))
	names := []string{"", "a", "b", ":path", ":method", "cookie", "age", "x-y"}
	values := []string{"", "1", "2", "/", "/x", "GET", "PUT", "a"}
	for range 200 {
		x := table(most)
		for range r.Intn(20) {
			x = dyntab.Add(x, field(names[r.Intn(len(names))], values[r.Intn(len(values))]))
		}
		all := append(static.All(), x.List...)
		for _, name := range names {
			for _, value := range values {
				want := 1 + slices.Index(all, field(name, value))
				is := want != 0
				if !is {
					want = 1 + slices.IndexFunc(all, func(f api.Field) bool { return f.Name == name })
				}
				wantFind(t, x, name, value, want, is)
			}
		}
	}
}

// Whatever is done with a table, it may be; what came last is at 62; what is left are the last ones that came, in order.
func TestP4_4WhateverIsDoneWithATable(t *testing.T) {
	r := rand.New(rand.NewSource(44))
	for range 40 {
		x, _ := dyntab.New(r.Intn(most + 1))
		var came []api.Field // the newest first; none, once all went
		for step := range 200 {
			if r.Intn(8) == 0 {
				x, _ = dyntab.Resize(x, r.Intn(most+3)-1)
			} else {
				f := field("name-"+strconv.Itoa(step), strings.Repeat("v", r.Intn(1+r.Intn(1+x.Max*5/4))))
				x = dyntab.Add(x, api.Field{Name: f.Name, Value: f.Value, Never: r.Intn(2) == 0})
				came = slices.Insert(came, 0, f)
				if static.Size(f) > x.Max {
					came = nil
				} else {
					wantAt(t, x, 62, f, true)
				}
			}
			wantCheck(t, x, api.OK)
			if n := len(x.List); n > len(came) || !slices.Equal(x.List, came[:n]) {
				t.Fatalf("%s, where %d fields came", show(x), len(came))
			}
			came = slices.Clone(x.List) // what went does not come back
		}
	}
}

func TestP4_4FieldsGoInTheOrderInWhichTheyCame(t *testing.T) {
	x, _ := dyntab.New(most)
	came, gone := 0, 0
	for came < 1000 {
		x = dyntab.Add(x, field(strconv.Itoa(came), strings.Repeat("v", came%97)))
		came++
		gone = came - len(x.List)
		for i := range x.List {
			f, ok := dyntab.At(x, 62+i)
			if !ok || f.Name != strconv.Itoa(came-1-i) {
				t.Fatalf("of %d that came, %q is at %d", came, f.Name, 62+i)
			}
		}
		if next := counted + len(strconv.Itoa(gone-1)) + (gone-1)%97; gone > 0 && dyntab.Size(x)+next <= most {
			t.Fatalf("%d fields went, of %d that came, where there was room", gone, came)
		}
	}
	for n := dyntab.Size(x); n >= 0; n-- {
		x, _ = dyntab.Resize(x, n)
		for i, f := range x.List {
			if f.Name != strconv.Itoa(came-1-i) {
				t.Fatalf("within %d, %q is at %d", n, f.Name, 62+i)
			}
		}
	}
	if len(x.List) != 0 || x.Max != 0 {
		t.Errorf("%s is left", show(x))
	}
}
