package ids_test

import (
	"math"
	"math/rand"
	"slices"
	"strconv"
	"testing"

	"footman/api"
	"footman/ids"
)

const (
	most          = 2147483647
	mark          = -54321 // a number that no list here has
	protocolError = 1
	internalError = 2
	calm          = 11
)

// far are numbers that no stream may have, to both ends of what an int can tell.
var far = []int{
	math.MinInt, math.MinInt + 1, -1<<32 + 1, -1 << 32, -most - 2, -most - 1, -most, -most + 1, -100, -3, -2, -1, 0,
	most + 1, most + 2, most + 3, 1<<32 - 1, 1 << 32, 1<<32 + 1, 1<<32 + 3, math.MaxInt - 1, math.MaxInt,
}

func table(last int, open, cut []int) ids.Table { return ids.Table{Last: last, Open: open, Cut: cut} }

// odd are n odd numbers, one behind the other, from a first one on.
func odd(from, n int) []int {
	var l []int
	for i := range n {
		l = append(l, from+2*i)
	}
	return l
}

func clone(x ids.Table) ids.Table {
	return table(x.Last, slices.Clone(x.Open), slices.Clone(x.Cut))
}

func alike(a, b ids.Table) bool {
	return a.Last == b.Last && slices.Equal(a.Open, b.Open) && slices.Equal(a.Cut, b.Cut)
}

func showList(l []int) string {
	s := strconv.Itoa(len(l)) + "["
	for _, n := range l[:min(len(l), 20)] {
		s += " " + strconv.Itoa(n)
	}
	return s + " ]"
}

func show(x ids.Table) string {
	return "{" + strconv.Itoa(x.Last) + " " + showList(x.Open) + " " + showList(x.Cut) + "}"
}

// modelCheck holds each against each, and does not trust that anything rises.
func modelCheck(x ids.Table) api.Errno {
	isRange := x.Last < 0 || x.Last > most || x.Last != 0 && x.Last%2 == 0
	isOrder, isForm, isThere := false, false, false
	for i, a := range x.Open {
		for _, b := range x.Open[i+1:] {
			isOrder = isOrder || b <= a
		}
		isThere = isThere || slices.Contains(x.Cut, a)
	}
	for i, a := range x.Cut {
		isThere = isThere || slices.Contains(x.Cut[i+1:], a)
	}
	for _, a := range slices.Concat(x.Cut, x.Open) {
		isForm = isForm || a%2 == 0 || a <= 0 || a > x.Last
	}
	for _, f := range []struct {
		is bool
		e  api.Errno
	}{{isRange, 8}, {len(x.Open) >= 17 || len(x.Cut) >= 9, 7}, {isOrder, 10}, {isForm, 4}, {isThere, 12}} {
		if f.is {
			return f.e
		}
	}
	return 0
}

func modelClass(x ids.Table, id int) int {
	if id <= 0 || id >= 1<<31 || id%2 == 0 {
		return 0
	}
	if id > x.Last {
		return 1
	}
	if slices.Contains(x.Open, id) {
		return 2
	}
	if slices.Contains(x.Cut, id) {
		return 4
	}
	return 3
}

func modelBegin(x ids.Table, id int) (ids.Table, api.Code) {
	if modelCheck(x) != 0 {
		return x, internalError
	}
	if modelClass(x, id) != 1 {
		return x, protocolError
	}
	if len(x.Open) >= 16 {
		return x, calm
	}
	return table(id, slices.Concat(x.Open, []int{id}), x.Cut), 0
}

func modelEnd(x ids.Table, id int, cut bool) ids.Table {
	at := slices.Index(x.Open, id)
	if modelCheck(x) != 0 || at < 0 {
		return x
	}
	left := table(x.Last, slices.Concat(x.Open[:at], x.Open[at+1:]), x.Cut)
	if cut && len(x.Cut) == 8 {
		left.Cut = x.Cut[1:]
	}
	if cut {
		left.Cut = slices.Concat(left.Cut, []int{id})
	}
	return left
}

// roomyList is a list again, with room behind it, in which something stands.
func roomyList(l []int) []int {
	return append(slices.Clip(slices.Clone(l)), 777, 779)[:len(l)]
}

func roomy(x ids.Table) ids.Table { return table(x.Last, roomyList(x.Open), roomyList(x.Cut)) }

// whole is a copy of all of a table, with what stands in the room behind its lists.
func whole(x ids.Table) ids.Table {
	return table(x.Last, slices.Clone(x.Open[:cap(x.Open)]), slices.Clone(x.Cut[:cap(x.Cut)]))
}

// spoil writes over all of a list, and over the room behind it.
func spoil(l []int, n int) {
	for i := range l[:cap(l)] {
		l[:cap(l)][i] = n
	}
}

// wantFresh holds that nothing stands in the spare room of an answer, and that its lists share none. The answer is spoilt then.
func wantFresh(t *testing.T, what string, x ids.Table) {
	t.Helper()
	for _, l := range [][]int{x.Open, x.Cut} {
		for _, n := range l[:cap(l)][len(l):] {
			if n != 0 {
				t.Errorf("%s: in the room behind a list stands %d", what, n)
			}
		}
	}
	spoil(x.Open, mark)
	spoil(x.Cut, mark-1)
	if slices.Contains(x.Open[:cap(x.Open)], mark-1) {
		t.Errorf("%s: both lists of the answer share", what)
	}
}

// wantNew holds what is so of each table that was changed: it may be; neither it nor what it came from, is in the other's memory; and what came in stays as it was, with what stands in its room behind. It tells the table.
func wantNew(t *testing.T, what string, x ids.Table, change func(ids.Table) ids.Table) ids.Table {
	t.Helper()
	came := roomy(x)
	was := whole(came)
	got := change(came)
	kept := clone(got)
	if !alike(whole(came), was) {
		t.Errorf("%s changed what came in", what)
	}
	if ids.Check(kept) != api.OK {
		t.Errorf("%s = %s, which Check refuses", what, show(kept))
	}
	wantFresh(t, what, change(came))
	if !alike(whole(came), was) {
		t.Errorf("%s shares its answer with what came in", what)
	}
	spoil(came.Open, mark)
	spoil(came.Cut, mark)
	if !alike(got, kept) {
		t.Errorf("%s keeps what came in", what)
	}
	return kept
}

// wantAsItWas holds that a table is answered as it was, and that what came in stays so.
func wantAsItWas(t *testing.T, what string, x ids.Table, change func(ids.Table) ids.Table) {
	t.Helper()
	came := roomy(x)
	was := whole(came)
	if got := change(came); !alike(got, x) {
		t.Errorf("%s = %s, want it as it was", what, show(got))
	}
	if !alike(whole(came), was) {
		t.Errorf("%s changed what came in", what)
	}
}

func wantCheck(t *testing.T, x ids.Table, want api.Errno) {
	t.Helper()
	came := roomy(x)
	was := whole(came)
	if e := ids.Check(came); e != want {
		t.Errorf("Check(%s) = %d, want %d", show(x), e, want)
	}
	if !alike(whole(came), was) {
		t.Errorf("Check(%s) changed what came in", show(x))
	}
}

func wantClass(t *testing.T, x ids.Table, id, want int) {
	t.Helper()
	came := roomy(x)
	was := whole(came)
	if c := ids.Class(came, id); c != want {
		t.Errorf("Class(%s, %d) = %d, want %d", show(x), id, c, want)
	}
	if !alike(whole(came), was) {
		t.Errorf("Class(%s, %d) changed what came in", show(x), id)
	}
}

// wantBegun holds that a stream begins, and tells the table.
func wantBegun(t *testing.T, x ids.Table, id int, want ids.Table) ids.Table {
	t.Helper()
	what := "Begin(" + show(x) + ", " + strconv.Itoa(id) + ")"
	got := wantNew(t, what, x, func(x ids.Table) ids.Table {
		y, code := ids.Begin(x, id)
		if code != 0 {
			t.Errorf("%s tells %d", what, code)
		}
		return y
	})
	if !alike(got, want) {
		t.Errorf("%s = %s, want %s", what, show(got), show(want))
	}
	return got
}

// wantNotBegun holds that a stream does not begin, and that the table is as it was.
func wantNotBegun(t *testing.T, x ids.Table, id int, want api.Code) {
	t.Helper()
	what := "Begin(" + show(x) + ", " + strconv.Itoa(id) + ")"
	wantAsItWas(t, what, x, func(x ids.Table) ids.Table {
		y, code := ids.Begin(x, id)
		if code != want {
			t.Errorf("%s tells %d, want %d", what, code, want)
		}
		return y
	})
}

func showEnd(x ids.Table, id int, cut bool) string {
	return "End(" + show(x) + ", " + strconv.Itoa(id) + ", " + strconv.FormatBool(cut) + ")"
}

// wantEnded holds that a stream ends, and tells the table.
func wantEnded(t *testing.T, x ids.Table, id int, cut bool, want ids.Table) ids.Table {
	t.Helper()
	what := showEnd(x, id, cut)
	got := wantNew(t, what, x, func(x ids.Table) ids.Table { return ids.End(x, id, cut) })
	if !alike(got, want) {
		t.Errorf("%s = %s, want %s", what, show(got), show(want))
	}
	return got
}

// wantNotEnded holds that a table is as it was, whether the stream is cut or not.
func wantNotEnded(t *testing.T, x ids.Table, id int) {
	t.Helper()
	for _, cut := range []bool{false, true} {
		wantAsItWas(t, showEnd(x, id, cut), x, func(x ids.Table) ids.Table { return ids.End(x, id, cut) })
	}
}

func wantSame(t *testing.T, a, b ids.Table, want bool) {
	t.Helper()
	comeA, comeB := roomy(a), roomy(b)
	wasA, wasB := whole(comeA), whole(comeB)
	if ids.Same(comeA, comeB) != want || ids.Same(comeB, comeA) != want {
		t.Errorf("Same(%s, %s) is not %t", show(a), show(b), want)
	}
	if !alike(whole(comeA), wasA) || !alike(whole(comeB), wasB) {
		t.Errorf("Same(%s, %s) changed what came in", show(a), show(b))
	}
}

// right are tables that may be.
func right() []ids.Table {
	return []ids.Table{
		{},
		table(1, nil, nil),
		table(1, []int{1}, nil),
		table(1, nil, []int{1}),
		table(7, []int{1, 5, 7}, nil),
		table(7, nil, []int{7, 1, 5}),
		table(9, []int{3, 7}, []int{9, 1}),
		table(101, []int{3}, []int{5, 99, 97, 1}),
		table(99, odd(1, 15), odd(51, 7)),
		table(99, odd(1, 15), odd(51, 8)),
		table(99, odd(1, 16), odd(51, 8)),
		table(99, odd(69, 16), odd(1, 8)),
		table(most, nil, nil),
		table(most, []int{1, most}, nil),
		table(most, []int{1}, []int{most, 3}),
		table(most, odd(most-30, 16), odd(1, 8)),
		table(most-2, []int{1, most - 2}, []int{3}),
	}
}

// fault makes a table one that may not be, and no earlier error of it.
type fault struct {
	e    api.Errno
	make func(ids.Table) ids.Table
}

func withLast(n int) func(ids.Table) ids.Table {
	return func(x ids.Table) ids.Table { return table(n, x.Open, x.Cut) }
}

func aheadOfOpen(l ...int) func(ids.Table) ids.Table {
	return func(x ids.Table) ids.Table { return table(x.Last, slices.Concat(l, x.Open), x.Cut) }
}

func behindOpen(l ...int) func(ids.Table) ids.Table {
	return func(x ids.Table) ids.Table { return table(x.Last, slices.Concat(x.Open, l), x.Cut) }
}

func aheadOfCut(l ...int) func(ids.Table) ids.Table {
	return func(x ids.Table) ids.Table { return table(x.Last, x.Open, slices.Concat(l, x.Cut)) }
}

func behindCut(l ...int) func(ids.Table) ids.Table {
	return func(x ids.Table) ids.Table { return table(x.Last, x.Open, slices.Concat(x.Cut, l)) }
}

// base is the table that faults are made in: there is room for some more of either list ahead and behind.
func base() ids.Table { return table(2001, odd(1001, 5), []int{1501, 1601}) }

func faults() []fault {
	return []fault{
		{api.ErrRange, withLast(2002)},
		{api.ErrRange, withLast(most + 1)},
		{api.ErrRange, withLast(most + 2)},
		{api.ErrRange, withLast(-1)},
		{api.ErrFull, behindOpen(odd(1701, 17)...)},
		{api.ErrFull, behindCut(odd(1801, 9)...)},
		{api.ErrFull, aheadOfOpen(odd(1, 12)...)},
		{api.ErrFull, aheadOfCut(odd(1801, 7)...)},
		{api.ErrOrder, aheadOfOpen(1001)},
		{api.ErrOrder, aheadOfOpen(1003)},
		{api.ErrOrder, behindOpen(1009)},
		{api.ErrOrder, behindOpen(1007)},
		{api.ErrOrder, behindOpen(1999, 1997)},
		{api.ErrForm, aheadOfOpen(0)},
		{api.ErrForm, aheadOfOpen(-1)},
		{api.ErrForm, aheadOfOpen(2)},
		{api.ErrForm, behindOpen(2000)},
		{api.ErrForm, behindOpen(2003)},
		{api.ErrForm, aheadOfCut(0)},
		{api.ErrForm, behindCut(-1)},
		{api.ErrForm, behindCut(2)},
		{api.ErrForm, aheadOfCut(2003)},
		{api.ErrThere, behindCut(1001)},
		{api.ErrThere, aheadOfCut(1009)},
		{api.ErrThere, aheadOfCut(1501)},
		{api.ErrThere, behindCut(1501)},
	}
}

// wrong are tables that Check refuses, each with its error.
func wrong() map[api.Errno][]ids.Table {
	l := map[api.Errno][]ids.Table{}
	for _, f := range faults() {
		l[f.e] = append(l[f.e], f.make(base()))
	}
	for _, n := range []int{2, 4, 100, -1, -2, -3, most + 1, most + 2, most + 3, 1 << 32, 1<<32 + 1, math.MinInt, math.MinInt + 1, math.MaxInt - 1, math.MaxInt} {
		l[api.ErrRange] = append(l[api.ErrRange], table(n, nil, nil))
	}
	for _, x := range []ids.Table{table(999, odd(1, 17), nil), table(999, nil, odd(1, 9)), table(0, nil, make([]int, 9)), table(999, odd(1, 100), odd(201, 100))} {
		l[api.ErrFull] = append(l[api.ErrFull], x)
	}
	return l
}

func TestP15_1CheckOfNothing(t *testing.T) {
	wantCheck(t, ids.Table{}, api.OK)
	wantCheck(t, table(0, []int{}, []int{}), api.OK)
	wantCheck(t, table(0, nil, []int{}), api.OK)
	wantCheck(t, table(0, []int{}, nil), api.OK)
}

func TestP15_1Check(t *testing.T) {
	for _, x := range right() {
		wantCheck(t, x, api.OK)
	}
	for e, l := range wrong() {
		for _, x := range l {
			wantCheck(t, x, e)
		}
	}
}

func TestP15_1CheckLast(t *testing.T) {
	for _, n := range []int{0, 1, 3, 5, 65535, 65537, most - 4, most - 2, most} {
		wantCheck(t, table(n, nil, nil), api.OK)
	}
	for _, n := range []int{-1, -2, -3, 2, 4, 100, 65536, most - 1, most - 3, most + 1, most + 2, most + 3, 1<<32 - 1, 1 << 32, 1<<32 + 1, 1<<62 + 1, -most, -1<<32 + 1, math.MinInt, math.MinInt + 1, math.MaxInt - 1, math.MaxInt} {
		wantCheck(t, table(n, nil, nil), api.ErrRange)
	}
}

func TestP15_1CheckHowMany(t *testing.T) {
	for n := range 40 {
		wantOpen, wantCut := api.OK, api.OK
		if n > 16 {
			wantOpen = api.ErrFull
		}
		if n > 8 {
			wantCut = api.ErrFull
		}
		wantCheck(t, table(999, odd(1, n), nil), wantOpen)
		wantCheck(t, table(999, odd(1, n), odd(501, 8)), wantOpen)
		wantCheck(t, table(999, nil, odd(1, n)), wantCut)
		wantCheck(t, table(999, odd(501, 16), odd(1, n)), wantCut)
	}
	wantCheck(t, table(999, odd(1, 17), odd(501, 9)), api.ErrFull)
}

func TestP15_1CheckOrder(t *testing.T) {
	for _, l := range [][]int{{3, 1}, {3, 3}, {1, 1}, {9, 7, 5}, {1, 3, 3}, {1, 1, 3}, {1, 5, 3}, {5, 1, 3}, {1, 3, 5, 5, 7}, {1, 3, 5, 3, 7}, {3, 5, 7, 1}, {1, 3, 7, 7}} {
		wantCheck(t, table(9, l, nil), api.ErrOrder)
		wantCheck(t, table(9, nil, l), map[bool]api.Errno{true: api.ErrThere}[len(l) > len(slices.Compact(slices.Sorted(slices.Values(l))))])
	}
	for at := range 15 { // each two neighbours of sixteen
		falls, equal := odd(1, 16), odd(1, 16)
		falls[at], falls[at+1] = falls[at+1], falls[at]
		equal[at+1] = equal[at]
		wantCheck(t, table(31, falls, nil), api.ErrOrder)
		wantCheck(t, table(31, equal, nil), api.ErrOrder)
	}
}

// What was cut need not rise: streams end in any order.
func TestP15_1CheckCutInAnyOrder(t *testing.T) {
	for _, l := range [][]int{{3, 1}, {9, 7, 5, 3, 1}, {5, 1, 9}, {15, 13, 11, 9, 7, 5, 3, 1}, {1, 15, 3, 13, 5, 11, 7, 9}} {
		wantCheck(t, table(15, nil, l), api.OK)
		wantCheck(t, table(19, []int{17, 19}, l), api.OK)
	}
}

func TestP15_1CheckForm(t *testing.T) {
	for _, last := range []int{0, 1, 9, 101, most - 2, most} {
		for _, n := range slices.Concat(far, []int{2, 4, last - 1, last + 1, last + 2, last + 3}) {
			if n < most && n > 0 && n%2 == 1 && n <= last {
				continue
			}
			wantCheck(t, table(last, []int{n}, nil), api.ErrForm)
			wantCheck(t, table(last, nil, []int{n}), api.ErrForm)
		}
	}
	for _, n := range []int{1, 3, 97, 99, 101} {
		wantCheck(t, table(101, []int{n}, nil), api.OK)
		wantCheck(t, table(101, nil, []int{n}), api.OK)
	}
	wantCheck(t, table(101, []int{101}, []int{99}), api.OK)
	wantCheck(t, table(101, []int{103}, nil), api.ErrForm)
	wantCheck(t, table(101, nil, []int{103}), api.ErrForm)
}

// One wrong number, at each place of either list.
func TestP15_1CheckFormAtEachPlace(t *testing.T) {
	for at := range 16 {
		l := odd(1001, 16)
		l[at]-- // it rises all the same
		wantCheck(t, table(2001, l, odd(1, 8)), api.ErrForm)
	}
	for at := range 8 {
		for _, n := range []int{0, -1, 2, 2003, 2002, math.MinInt, math.MaxInt} {
			l := odd(1, 8)
			l[at] = n
			wantCheck(t, table(2001, odd(1001, 16), l), api.ErrForm)
		}
	}
}

func TestP15_1CheckThere(t *testing.T) {
	wantCheck(t, table(9, []int{3}, []int{3}), api.ErrThere)
	wantCheck(t, table(9, nil, []int{3, 3}), api.ErrThere)
	wantCheck(t, table(9, nil, []int{3, 5, 3}), api.ErrThere)
	wantCheck(t, table(9, nil, []int{3, 5, 5}), api.ErrThere)
	wantCheck(t, table(9, nil, []int{9, 7, 5, 3, 9}), api.ErrThere)
	for i := range 8 {
		for j := range 16 { // one of the cut ones is open
			l := odd(1, 8)
			l[i] = 1001 + 2*j
			wantCheck(t, table(2001, odd(1001, 16), l), api.ErrThere)
		}
		for j := range i { // one is cut twice
			l := odd(1, 8)
			l[i] = l[j]
			wantCheck(t, table(2001, odd(1001, 16), l), api.ErrThere)
		}
	}
}

// Each two of the faults, and each three: the error that the chapter names first is told.
func TestP15_1CheckOfSeveralFaults(t *testing.T) {
	rank := []api.Errno{api.ErrRange, api.ErrFull, api.ErrOrder, api.ErrForm, api.ErrThere}
	first := func(l ...fault) api.Errno {
		for _, e := range rank {
			if slices.ContainsFunc(l, func(f fault) bool { return f.e == e }) {
				return e
			}
		}
		return api.OK
	}
	wantCheck(t, base(), api.OK)
	for _, a := range faults() {
		wantCheck(t, a.make(base()), a.e)
		for _, b := range faults() {
			if a.e == b.e {
				continue
			}
			x := b.make(a.make(base()))
			wantCheck(t, x, first(a, b))
			for _, c := range faults() {
				if c.e != a.e && c.e != b.e {
					wantCheck(t, c.make(x), first(a, b, c))
				}
			}
		}
	}
	wantCheck(t, table(-2, make([]int, 20), make([]int, 20)), api.ErrRange)
	wantCheck(t, table(0, make([]int, 20), make([]int, 20)), api.ErrFull)
	wantCheck(t, table(0, make([]int, 16), make([]int, 8)), api.ErrOrder)
	wantCheck(t, table(0, make([]int, 1), make([]int, 8)), api.ErrForm)
}

func TestP15_1Same(t *testing.T) {
	all := right()
	for _, l := range wrong() {
		all = append(all, l...)
	}
	for _, a := range all {
		wantSame(t, a, a, true)
		wantSame(t, a, clone(a), true)
		wantSame(t, a, table(a.Last+1, a.Open, a.Cut), false)
		wantSame(t, a, table(a.Last-1, a.Open, a.Cut), false)
		wantSame(t, a, table(a.Last^1<<32, a.Open, a.Cut), false)
		wantSame(t, a, behindOpen(5)(a), false)
		wantSame(t, a, behindCut(5)(a), false)
		wantSame(t, a, behindOpen(0)(a), false)
		wantSame(t, a, behindCut(0)(a), false)
		for _, b := range all {
			wantSame(t, a, b, alike(a, b))
		}
	}
}

func TestP15_1SameOfEmptyLists(t *testing.T) {
	for _, last := range []int{0, 1, -4, most} {
		empty := []ids.Table{table(last, nil, nil), table(last, []int{}, nil), table(last, nil, []int{}), table(last, []int{}, []int{})}
		for _, a := range empty {
			for _, b := range empty {
				wantSame(t, a, b, true)
				if !ids.Same(a, b) {
					t.Errorf("Same(%v, %v) is false", a, b)
				}
			}
		}
	}
}

// Each single number of both lists, how many there are, and in what order.
func TestP15_1SameOfOneThing(t *testing.T) {
	a := table(99, odd(1, 16), odd(51, 8))
	for at := range 16 {
		b := clone(a)
		b.Open[at] += 1 << 32
		wantSame(t, a, b, false)
		wantSame(t, a, table(99, slices.Delete(clone(a).Open, at, at+1), a.Cut), false)
	}
	for at := range 8 {
		b := clone(a)
		b.Cut[at]--
		wantSame(t, a, b, false)
		wantSame(t, a, table(99, a.Open, slices.Delete(clone(a).Cut, at, at+1)), false)
	}
	b := clone(a)
	slices.Reverse(b.Open)
	wantSame(t, a, b, false)
	b = clone(a)
	b.Cut[3], b.Cut[4] = b.Cut[4], b.Cut[3]
	wantSame(t, a, b, false)
	wantSame(t, table(9, []int{3}, []int{5}), table(9, []int{5}, []int{3}), false)
	wantSame(t, table(9, []int{3, 5}, nil), table(9, []int{3}, []int{5}), false)
	wantSame(t, table(9, []int{3}, nil), table(9, nil, []int{3}), false)
}

func TestP15_2Example(t *testing.T) {
	x := wantBegun(t, ids.Table{}, 3, table(3, []int{3}, nil))
	wantClass(t, x, 1, ids.Gone)
	wantClass(t, x, 3, ids.Open)
	wantClass(t, x, 5, ids.Idle)
}

func TestP15_2ConstantsAsTold(t *testing.T) {
	if ids.Bad != 0 || ids.Idle != 1 || ids.Open != 2 || ids.Gone != 3 || ids.Cut != 4 || ids.Kept != 8 {
		t.Error(ids.Bad, ids.Idle, ids.Open, ids.Gone, ids.Cut, ids.Kept)
	}
}

func TestP15_2Bad(t *testing.T) {
	for _, x := range right() {
		for _, id := range slices.Concat(far, []int{2, 4, 6, 100, 65536, most - 1, x.Last - x.Last%2, x.Last + x.Last%2}) {
			wantClass(t, x, id, ids.Bad)
		}
	}
}

func TestP15_2Idle(t *testing.T) {
	for _, x := range right() {
		for _, id := range []int{x.Last + 1 + (x.Last+1)%2 - 1, x.Last + 1 + x.Last%2, x.Last + 3 + x.Last%2, most - 2, most} {
			if id > x.Last && id <= most && id%2 == 1 {
				wantClass(t, x, id, ids.Idle)
			}
		}
	}
	wantClass(t, ids.Table{}, 1, ids.Idle)
	wantClass(t, ids.Table{}, most, ids.Idle)
	wantClass(t, table(7, nil, nil), 7, ids.Gone)
	wantClass(t, table(7, nil, nil), 9, ids.Idle)
	wantClass(t, table(most-2, nil, nil), most-2, ids.Gone)
	wantClass(t, table(most-2, nil, nil), most, ids.Idle)
	wantClass(t, table(most, nil, nil), most, ids.Gone)
}

func TestP15_2OpenCutAndGone(t *testing.T) {
	x := table(101, []int{3, 9, 11, 101}, []int{99, 1, 55})
	wantClass(t, x, 1, ids.Cut)
	wantClass(t, x, 3, ids.Open)
	wantClass(t, x, 5, ids.Gone)
	wantClass(t, x, 7, ids.Gone)
	wantClass(t, x, 9, ids.Open)
	wantClass(t, x, 11, ids.Open)
	wantClass(t, x, 55, ids.Cut)
	wantClass(t, x, 97, ids.Gone)
	wantClass(t, x, 99, ids.Cut)
	wantClass(t, x, 101, ids.Open)
	wantClass(t, x, 103, ids.Idle)
	for _, x := range right() {
		for _, id := range x.Open {
			wantClass(t, x, id, ids.Open)
		}
		for _, id := range x.Cut {
			wantClass(t, x, id, ids.Cut)
		}
		for id := 1; id <= min(x.Last, 301); id += 2 {
			if !slices.Contains(x.Open, id) && !slices.Contains(x.Cut, id) {
				wantClass(t, x, id, ids.Gone)
			}
		}
	}
}

// Class asks nothing of a table: its words hold, one behind the other, of those that Check refuses, too.
func TestP15_2OfTablesThatCheckRefuses(t *testing.T) {
	wantClass(t, table(4, []int{4}, nil), 4, ids.Bad)
	wantClass(t, table(9, []int{0, -1}, []int{-3}), -1, ids.Bad)
	wantClass(t, table(9, []int{11}, []int{13}), 11, ids.Idle)
	wantClass(t, table(9, []int{11}, []int{13}), 13, ids.Idle)
	wantClass(t, table(9, []int{5}, []int{5}), 5, ids.Open)
	wantClass(t, table(9, []int{7, 5, 3}, []int{1, 1}), 3, ids.Open)
	wantClass(t, table(9, []int{7, 5, 3}, []int{1, 1}), 7, ids.Open)
	wantClass(t, table(9, []int{7, 5, 3}, []int{1, 1}), 1, ids.Cut)
	wantClass(t, table(8, nil, nil), 7, ids.Gone)
	wantClass(t, table(8, nil, nil), 9, ids.Idle)
	wantClass(t, table(-1, nil, nil), 1, ids.Idle)
	wantClass(t, table(math.MinInt, []int{1}, nil), 1, ids.Idle)
	wantClass(t, table(math.MaxInt, []int{math.MaxInt}, nil), math.MaxInt, ids.Bad)
	wantClass(t, table(math.MaxInt, []int{most}, nil), most, ids.Open)
	wantClass(t, table(math.MaxInt, nil, nil), most, ids.Gone)
	wantClass(t, table(most+2, []int{most + 2}, nil), most+2, ids.Bad)
	wantClass(t, table(999, odd(1, 100), odd(201, 100)), 199, ids.Open)
	wantClass(t, table(999, odd(1, 100), odd(201, 100)), 399, ids.Cut)
	wantClass(t, table(999, odd(1, 100), odd(201, 100)), 401, ids.Gone)
	for _, l := range wrong() {
		for _, x := range l {
			for _, id := range slices.Concat(far, x.Open, x.Cut, []int{1, 2, 3, most - 1, most, x.Last, x.Last - 1, x.Last + 1, x.Last + 2}) {
				wantClass(t, x, id, modelClass(x, id))
			}
		}
	}
}

func TestP15_3Begin(t *testing.T) {
	x := wantBegun(t, ids.Table{}, 1, table(1, []int{1}, nil))
	x = wantBegun(t, x, 3, table(3, []int{1, 3}, nil))
	x = wantBegun(t, x, 9, table(9, []int{1, 3, 9}, nil))
	wantBegun(t, x, 11, table(11, []int{1, 3, 9, 11}, nil))
	wantBegun(t, x, 1001, table(1001, []int{1, 3, 9, 1001}, nil))
	wantBegun(t, x, most, table(most, []int{1, 3, 9, most}, nil))
	wantBegun(t, ids.Table{}, most, table(most, []int{most}, nil))
	wantBegun(t, table(0, []int{}, []int{}), 3, table(3, []int{3}, nil))
	wantBegun(t, table(9, nil, []int{9, 1}), 11, table(11, []int{11}, []int{9, 1}))
	wantBegun(t, table(9, []int{5}, []int{9, 1}), 1001, table(1001, []int{5, 1001}, []int{9, 1}))
	wantBegun(t, table(99, odd(1, 3), odd(51, 8)), 101, table(101, []int{1, 3, 5, 101}, odd(51, 8)))
	wantBegun(t, table(most-2, []int{5}, nil), most, table(most, []int{5, most}, nil))
}

func TestP15_3BeginOfWhatIsNotIdle(t *testing.T) {
	for _, x := range right() {
		for _, id := range slices.Concat(far, x.Open, x.Cut, []int{2, 4, 100, x.Last, x.Last - 1, x.Last + 1 + (x.Last+1)%2, most - 1}) {
			if modelClass(x, id) != ids.Idle {
				wantNotBegun(t, x, id, protocolError)
			}
		}
	}
	x := table(9, []int{3, 7}, []int{1})
	wantNotBegun(t, x, 10, protocolError) // Bad
	wantNotBegun(t, x, 0, protocolError)
	wantNotBegun(t, x, -11, protocolError)
	wantNotBegun(t, x, most+2, protocolError)
	wantNotBegun(t, x, 7, protocolError) // Open
	wantNotBegun(t, x, 1, protocolError) // Cut
	wantNotBegun(t, x, 5, protocolError) // Gone
	wantNotBegun(t, x, 9, protocolError)
	wantNotBegun(t, table(most, nil, nil), most, protocolError)
	wantNotBegun(t, table(most, nil, nil), most+2, protocolError)
}

func TestP15_3BeginOfTheLastThatThereIsRoomFor(t *testing.T) {
	for _, cut := range [][]int{nil, {51}, odd(51, 8)} {
		x := table(99, odd(1, 15), cut)
		for _, id := range []int{101, 103, 65537, most} {
			y := wantBegun(t, x, id, table(id, append(odd(1, 15), id), cut))
			wantNotBegun(t, y, most, map[bool]api.Code{true: protocolError, false: calm}[id == most])
		}
	}
}

func TestP15_3BeginWhereThereIsNoRoom(t *testing.T) {
	x := table(99, odd(1, 16), odd(51, 8))
	for _, id := range []int{101, 103, 65537, most - 2, most} {
		wantNotBegun(t, x, id, calm)
	}
	for _, id := range slices.Concat(far, []int{1, 31, 33, 51, 65, 67, 99, 100, 102, most - 1}) {
		wantNotBegun(t, x, id, protocolError)
	}
	for _, id := range x.Open { // with one that ended there is room again
		wantBegun(t, ids.End(x, id, false), 101, table(101, append(slices.DeleteFunc(odd(1, 16), func(n int) bool { return n == id }), 101), odd(51, 8)))
	}
}

// Whatever the number is: of such a table nothing can be told.
func TestP15_3BeginOfTablesThatCheckRefuses(t *testing.T) {
	for _, l := range wrong() {
		for _, x := range l {
			for _, id := range slices.Concat(far, x.Open, x.Cut, []int{1, 2, 3, x.Last, x.Last + 1, x.Last + 2, 2005, most - 1, most}) {
				wantNotBegun(t, x, id, internalError)
			}
		}
	}
}

func TestP15_3End(t *testing.T) {
	x := table(99, []int{1, 5, 9, 13, 99}, []int{51, 3})
	for at, id := range []int{1, 5, 9, 13, 99} {
		left := slices.Delete([]int{1, 5, 9, 13, 99}, at, at+1)
		wantEnded(t, x, id, false, table(99, left, []int{51, 3}))
		wantEnded(t, x, id, true, table(99, left, []int{51, 3, id}))
	}
}

func TestP15_3EndOfTheOnlyOne(t *testing.T) {
	for _, id := range []int{1, 3, 101, most} {
		for _, last := range []int{id, most} {
			wantEnded(t, table(last, []int{id}, nil), id, false, table(last, nil, nil))
			wantEnded(t, table(last, []int{id}, nil), id, true, table(last, nil, []int{id}))
		}
	}
	wantEnded(t, table(9, []int{5}, []int{9, 1}), 5, false, table(9, nil, []int{9, 1}))
	wantEnded(t, table(9, []int{5}, []int{9, 1}), 5, true, table(9, nil, []int{9, 1, 5}))
}

// Sixteen that are cut, one behind the other: from the ninth on the oldest goes.
func TestP15_3EndOfMoreThanAreKept(t *testing.T) {
	order := []int{31, 1, 15, 3, 29, 5, 17, 7, 27, 9, 25, 11, 23, 13, 21, 19}
	x := table(31, odd(1, 16), nil)
	for i, id := range order {
		left := slices.Sorted(slices.Values(order[i+1:]))
		x = wantEnded(t, x, id, true, table(31, left, order[max(0, i+1-8):i+1]))
		for j, n := range order[:i+1] {
			wantClass(t, x, n, map[bool]int{true: ids.Cut, false: ids.Gone}[j > i-8])
		}
	}
	x = table(99, odd(1, 3), odd(51, 8))
	wantEnded(t, x, 1, false, table(99, []int{3, 5}, odd(51, 8)))
	x = wantEnded(t, x, 3, true, table(99, []int{1, 5}, append(odd(53, 7), 3)))
	x = wantEnded(t, x, 1, true, table(99, []int{5}, append(odd(55, 6), 3, 1)))
	wantClass(t, x, 51, ids.Gone)
	wantClass(t, x, 53, ids.Gone)
	wantClass(t, x, 55, ids.Cut)
}

func TestP15_3EndOfWhatIsNotOpen(t *testing.T) {
	for _, x := range right() {
		for _, id := range slices.Concat(far, x.Cut, []int{1, 2, 3, 5, 7, 9, 49, x.Last, x.Last - 1, x.Last + 1, x.Last + 2, 65537, most - 1, most}) {
			if !slices.Contains(x.Open, id) {
				wantNotEnded(t, x, id)
			}
		}
	}
	x := table(9, []int{3, 7}, []int{1})
	for _, id := range []int{1, 5, 9, 11, 4, 0, -3, most + 4} { // Cut, Gone, Gone, Idle, and Bad
		wantNotEnded(t, x, id)
	}
	x = wantEnded(t, x, 3, true, table(9, []int{7}, []int{1, 3}))
	wantNotEnded(t, x, 3) // it ends but once
	x = wantEnded(t, x, 7, false, table(9, nil, []int{1, 3}))
	wantNotEnded(t, x, 7)
}

func TestP15_3EndOfTablesThatCheckRefuses(t *testing.T) {
	for _, l := range wrong() {
		for _, x := range l {
			for _, id := range slices.Concat(far, x.Open, x.Cut, []int{1, 2, 3, x.Last, x.Last + 1, x.Last + 2, most}) {
				wantNotEnded(t, x, id)
			}
		}
	}
}

// lists are all lists of up to so many numbers from -1 to 6.
func lists(most int) [][]int {
	all, last := [][]int{nil}, [][]int{nil}
	for range most {
		var next [][]int
		for _, l := range last {
			for n := -1; n <= 6; n++ {
				next = append(next, append(slices.Clone(l), n))
			}
		}
		all, last = append(all, next...), next
	}
	return all
}

func TestP15_1To3OfAllSmallTablesAgainstTheModel(t *testing.T) {
	for last := -2; last <= 6; last++ {
		for _, open := range lists(2) {
			for _, cut := range lists(2) {
				wantAsTheModel(t, table(last, open, cut), []int{-1, 0, 1, 2, 3, 4, 5, 6, 7})
			}
		}
	}
	for last := 3; last <= 6; last++ {
		for _, open := range lists(3) {
			wantAsTheModel(t, table(last, open, nil), []int{1, 3, 4, 5, 7})
			wantAsTheModel(t, table(last, nil, open), []int{1, 3, 4, 5, 7})
		}
	}
}

func wantAsTheModel(t *testing.T, x ids.Table, numbers []int) {
	t.Helper()
	if e := ids.Check(x); e != modelCheck(x) {
		t.Errorf("Check(%s) = %d, want %d", show(x), e, modelCheck(x))
	}
	for _, id := range numbers {
		if c := ids.Class(x, id); c != modelClass(x, id) {
			t.Errorf("Class(%s, %d) = %d, want %d", show(x), id, c, modelClass(x, id))
		}
		want, wantCode := modelBegin(x, id)
		if y, code := ids.Begin(x, id); !alike(y, want) || code != wantCode {
			t.Errorf("Begin(%s, %d) = %s, %d, want %s, %d", show(x), id, show(y), code, show(want), wantCode)
		}
		for _, cut := range []bool{false, true} {
			if y, want := ids.End(x, id, cut), modelEnd(x, id, cut); !alike(y, want) {
				t.Errorf("%s = %s, want %s", showEnd(x, id, cut), show(y), show(want))
			}
		}
	}
}

// anyTable is one with lists about as long as they may be, of which a few have faults.
func anyTable(r *rand.Rand) ids.Table {
	numbers := odd(1, 60)
	r.Shuffle(len(numbers), func(i, j int) { numbers[i], numbers[j] = numbers[j], numbers[i] })
	open := slices.Sorted(slices.Values(numbers[:r.Intn(18)]))
	x := table(119+2*r.Intn(3), open, slices.Clone(numbers[20:20+r.Intn(10)]))
	anyOf := func(l []int) *int {
		if len(l) == 0 {
			return &x.Last
		}
		return &l[r.Intn(len(l))]
	}
	for range max(0, r.Intn(5)-2) {
		switch r.Intn(6) {
		case 0:
			x.Last = r.Intn(130) - 3
		case 1:
			*anyOf(x.Open) = r.Intn(130) - 3
		case 2:
			*anyOf(x.Cut) = r.Intn(130) - 3
		case 3:
			*anyOf(x.Cut) = *anyOf(x.Open)
		case 4:
			*anyOf(x.Cut) = *anyOf(x.Cut)
		case 5:
			*anyOf(x.Open) = *anyOf(x.Open)
		}
	}
	return x
}

func TestP15_1To3OfTablesOfAnyKindAgainstTheModel(t *testing.T) {
	r := rand.New(rand.NewSource(15))
	met := map[api.Errno]int{}
	for range 30000 {
		x := anyTable(r)
		met[ids.Check(x)]++
		numbers := []int{r.Intn(130) - 3, 1 + 2*r.Intn(62), x.Last, x.Last + 2}
		if len(x.Open) > 0 {
			numbers = append(numbers, x.Open[r.Intn(len(x.Open))])
		}
		if len(x.Cut) > 0 {
			numbers = append(numbers, x.Cut[r.Intn(len(x.Cut))])
		}
		wantAsTheModel(t, x, numbers)
	}
	for _, e := range []api.Errno{api.OK, api.ErrRange, api.ErrFull, api.ErrOrder, api.ErrForm, api.ErrThere} {
		if met[e] < 100 {
			t.Errorf("of tables with error %d there were but %d", e, met[e])
		}
	}
}

// history is what became of each stream that began, told beside the table.
type history struct {
	t     *testing.T
	x     ids.Table
	last  int
	class map[int]int // of each that began
	cut   []int       // all that were cut, in their order
	begun int
}

// begin asks for a stream, and holds that just what is idle begins, where there is room.
func (h *history) begin(id int) {
	open := 0
	for _, c := range h.class {
		if c == ids.Open {
			open++
		}
	}
	isIdle := id%2 == 1 && id > h.last && id <= most
	switch {
	case !isIdle:
		wantNotBegun(h.t, h.x, id, protocolError)
	case open == 16:
		wantNotBegun(h.t, h.x, id, calm)
	default:
		h.x = wantBegun(h.t, h.x, id, table(id, slices.Concat(h.x.Open, []int{id}), h.x.Cut))
		if _, is := h.class[id]; is {
			h.t.Errorf("%d began twice", id)
		}
		h.last, h.class[id] = id, ids.Open
		h.begun++
	}
}

// end ends what is open, and nothing else; of what was cut all but the last eight is gone.
func (h *history) end(id int, cut bool) {
	if h.class[id] != ids.Open {
		wantNotEnded(h.t, h.x, id)
		return
	}
	left := slices.DeleteFunc(slices.Clone(h.x.Open), func(n int) bool { return n == id })
	h.class[id] = ids.Gone
	if cut {
		h.class[id] = ids.Cut
		h.cut = append(h.cut, id)
		if len(h.cut) > 8 {
			h.class[h.cut[len(h.cut)-9]] = ids.Gone
		}
	}
	h.x = wantEnded(h.t, h.x, id, cut, table(h.last, left, h.cut[max(0, len(h.cut)-8):]))
}

// wantFates holds that each that began is what it became, and what was passed over is gone.
func (h *history) wantFates() {
	wantCheck(h.t, h.x, api.OK)
	if h.x.Last != h.last {
		h.t.Errorf("the last one that began was %d, not %d", h.last, h.x.Last)
	}
	for id, c := range h.class {
		wantClass(h.t, h.x, id, c)
		if id > 2 && h.class[id-2] == 0 {
			wantClass(h.t, h.x, id-2, ids.Gone)
		}
	}
	for _, id := range []int{h.last + 1, h.last + 2, h.last + 3} {
		wantClass(h.t, h.x, id, modelClass(h.x, id))
	}
}

// any picks a number of any kind: one that began, one near the last one, one that is bad, or the next one.
func (h *history) any(r *rand.Rand) int {
	near := h.last + h.last%2 // even
	switch r.Intn(8) {
	case 0:
		return far[r.Intn(len(far))]
	case 1:
		return near - r.Intn(40)
	case 2:
		return near + r.Intn(40)
	case 3, 4:
		if len(h.x.Open) > 0 {
			return h.x.Open[r.Intn(len(h.x.Open))]
		}
	case 5:
		if len(h.cut) > 0 {
			return h.cut[r.Intn(len(h.cut))]
		}
	}
	return near + 1 + 2*r.Intn(3)
}

func TestP15_4LongRuns(t *testing.T) {
	for seed := range int64(24) {
		r := rand.New(rand.NewSource(seed))
		h := history{t: t, class: map[int]int{}}
		if seed%4 == 3 { // up to the last number that there is
			h.x, h.last = table(most-200, nil, []int{most - 300}), most-200
			h.class[most-300], h.cut = ids.Cut, []int{most - 300}
		}
		endings := 1 + int(seed%3) // some runs are often full, others seldom
		for i := range 700 {
			if r.Intn(4) < endings {
				h.end(h.any(r), r.Intn(3) > 0)
			} else {
				h.begin(h.any(r))
			}
			if i%20 == 0 {
				h.wantFates()
			}
		}
		h.wantFates()
		if h.begun < 20 || seed%4 == 3 && h.last != most {
			t.Errorf("in run %d but %d streams began, up to %d", seed, h.begun, h.last)
		}
	}
}

// Behind each step what is gone stays gone, and nothing comes back to be open or cut.
func TestP15_4FatesAreForGood(t *testing.T) {
	r := rand.New(rand.NewSource(4))
	rank := map[int]int{ids.Idle: 0, ids.Open: 1, ids.Cut: 2, ids.Gone: 3}
	var x ids.Table
	was := map[int]int{}
	for i := 0; i < 12000 && x.Last < 401; i++ {
		switch r.Intn(4) {
		case 0:
			x, _ = ids.Begin(x, r.Intn(x.Last+8))
		case 1:
			x, _ = ids.Begin(x, x.Last+r.Intn(8))
		case 2:
			x = ids.End(x, r.Intn(x.Last+8), r.Intn(2) == 0)
		case 3:
			x = ids.End(x, slices.Concat(x.Open, []int{1})[r.Intn(len(x.Open)+1)], r.Intn(2) == 0)
		}
		for id := 1; id <= 421; id += 2 {
			c := ids.Class(x, id)
			if rank[c] < was[id] {
				t.Fatalf("%d was of rank %d, and is of class %d: %s", id, was[id], c, show(x))
			}
			was[id] = rank[c]
		}
		wantCheck(t, x, api.OK)
	}
	if x.Last < 401 {
		t.Errorf("it came to %d alone", x.Last)
	}
}

// No number begins twice, whatever became of it.
func TestP15_4NothingBeginsTwice(t *testing.T) {
	var x ids.Table
	for id := 1; id < 600; id += 2 {
		x = wantBegun(t, x, id, table(id, slices.Concat(x.Open, []int{id}), x.Cut))
		wantNotBegun(t, x, id, protocolError)
		switch id % 3 {
		case 0:
			x = ids.End(x, id, true)
		case 1:
			x = ids.End(x, id, false)
		}
		if len(x.Open) > 12 {
			x = ids.End(x, x.Open[id%12], id%5 == 0)
		}
		for n := 1; n <= id; n++ {
			if y, code := ids.Begin(x, n); code != protocolError || !alike(x, y) {
				t.Errorf("%d began again", n)
			}
		}
	}
}
