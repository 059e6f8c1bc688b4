package outq_test

import (
	"bytes"
	"math"
	"math/big"
	"math/rand"
	"slices"
	"strconv"
	"strings"
	"testing"

	"footman/api"
	"footman/outq"
)

const (
	mostOut  = 65536
	mostWork = 1 << 40
)

// counts are at both bounds of Made and Gone, around them, between them, and far outside.
var counts = []int{
	math.MinInt, math.MinInt + 1, -mostWork - 1, -mostWork, -1<<32 - 1, -1 << 32, -65537, -65536, -2, -1, 0, 1, 2, 3, 65535, 65536, 65537,
	1 << 32, 1<<32 + 1, mostWork - 65536, mostWork - 2, mostWork - 1, mostWork, mostWork + 1, mostWork + 2, 1 << 62, math.MaxInt - 65536, math.MaxInt - 1, math.MaxInt,
}

// goes are how many bytes may be asked for, far outside too.
var goes = []int{math.MinInt, math.MinInt + 1, -1<<32 + 1, -65536, -2, -1, 0, 1, 2, 3, 4, 5, 6, 7, 8, 9, 10, 11, 12, 65535, 65536, 65537, 1<<32 + 1, math.MaxInt - 1, math.MaxInt}

func x(n int) string { return strings.Repeat("x", n) }

func of(parts ...string) []string { return parts }

// right is a queue of these parts, of which gone bytes went ahead.
func right(gone int, parts ...string) outq.Queue {
	return outq.Queue{Parts: parts, Made: gone + len(strings.Join(parts, "")), Gone: gone}
}

// roomy is l with a room behind it, in which something stands.
func roomy(l []string) []string {
	more := append(slices.Clone(l), "behind", "still behind", "the last")
	return more[:len(l)]
}

func show(q outq.Queue) string {
	s := "{" + strconv.Itoa(len(q.Parts)) + "["
	for _, p := range q.Parts[:min(len(q.Parts), 12)] {
		s += " " + shorten(p)
	}
	return s + " ] " + strconv.Itoa(q.Made) + " " + strconv.Itoa(q.Gone) + "}"
}

func shorten(s string) string {
	if len(s) <= 24 {
		return strconv.Quote(s)
	}
	return strconv.Quote(s[:24]) + " of " + strconv.Itoa(len(s))
}

// modelSame holds two queues against each other field by field.
func modelSame(a, b outq.Queue) bool {
	if len(a.Parts) != len(b.Parts) || a.Made != b.Made || a.Gone != b.Gone {
		return false
	}
	for i := range a.Parts {
		if a.Parts[i] != b.Parts[i] {
			return false
		}
	}
	return true
}

// faults are what the chapter refuses of a queue: all of it, the first one ahead.
func faults(q outq.Queue) []api.Errno {
	var l []api.Errno
	n := int64(0)
	isEmpty := false
	for _, p := range q.Parts {
		isEmpty = isEmpty || p == ""
		n += int64(len(p))
	}
	if isEmpty {
		l = append(l, 4)
	}
	if n > mostOut {
		l = append(l, 7)
	}
	if q.Made < 0 || q.Made > mostWork || q.Gone < 0 || q.Gone > mostWork {
		l = append(l, 8)
	}
	sum := new(big.Int).Add(big.NewInt(int64(q.Gone)), big.NewInt(n))
	if sum.Cmp(big.NewInt(int64(q.Made))) != 0 {
		l = append(l, 10)
	}
	return l
}

func modelCheck(q outq.Queue) api.Errno { return append(faults(q), 0)[0] }

func modelRoom(q outq.Queue) int {
	if modelCheck(q) != 0 {
		return 0
	}
	return mostOut - len(strings.Join(q.Parts, ""))
}

// modelPush tells what is put behind.
func modelPush(q outq.Queue, b string) (outq.Queue, api.Errno) {
	if e := modelCheck(q); e != 0 {
		return q, e
	}
	if len(b) > modelRoom(q) || len(b) > mostWork-q.Made {
		return q, 7
	}
	if b == "" {
		return q, 0
	}
	return outq.Queue{Parts: append(slices.Clone(q.Parts), b), Made: q.Made + len(b), Gone: q.Gone}, 0
}

// modelDrain lays all bytes behind each other, and cuts what is left where the parts' ends were.
func modelDrain(q outq.Queue, n int) (outq.Queue, string) {
	if n < 1 || modelCheck(q) != 0 {
		return q, ""
	}
	all := strings.Join(q.Parts, "")
	n = min(n, len(all))
	left := outq.Queue{Made: q.Made, Gone: q.Gone + n}
	from, end := n, 0
	for _, p := range q.Parts {
		if end += len(p); end > n {
			left.Parts = append(left.Parts, all[from:end])
			from = end
		}
	}
	return left, all[:n]
}

// wantCheck holds Check, Len and Room of a queue against the model, and its parts against what they were.
func wantCheck(t *testing.T, q outq.Queue, want api.Errno) {
	t.Helper()
	was := slices.Clone(q.Parts)
	if e := outq.Check(q); e != want || e != modelCheck(q) {
		t.Errorf("Check(%s): %d, not %d (the model: %d)", show(q), e, want, modelCheck(q))
	}
	if n := outq.Len(q); n != len(strings.Join(q.Parts, "")) {
		t.Errorf("Len(%s): %d", show(q), n)
	}
	if n := outq.Room(q); n != modelRoom(q) {
		t.Errorf("Room(%s): %d, not %d", show(q), n, modelRoom(q))
	}
	if !slices.Equal(q.Parts, was) {
		t.Errorf("changed: %s", show(q))
	}
}

// wantPush puts b onto q, twice, and holds the answers against the model; what came in stays as it was, its room behind too.
func wantPush(t *testing.T, q outq.Queue, b []byte) outq.Queue {
	t.Helper()
	given := outq.Queue{Parts: roomy(q.Parts), Made: q.Made, Gone: q.Gone}
	bytesBehind := append(append([]byte{}, b...), "behind"...)
	y, e := outq.Push(given, bytesBehind[:len(b)])
	want, wantE := modelPush(q, string(b))
	if e != wantE || !modelSame(y, want) {
		t.Errorf("Push(%s, %s): %s %d, not %s %d", show(q), shorten(string(b)), show(y), e, show(want), wantE)
	}
	if e == 0 {
		wantOwn(t, y, given)
	}
	again, e2 := outq.Push(given, b)
	if e2 != e || !modelSame(again, want) || !modelSame(y, want) {
		t.Errorf("Push(%s, %s) again: %s %d", show(q), shorten(string(b)), show(again), e2)
	}
	wantStill(t, given, q)
	if string(bytesBehind) != string(b)+"behind" {
		t.Errorf("Push(%s) changed its bytes", show(q))
	}
	return y
}

// wantDrain takes n bytes off q, twice, and holds the answers against the model; what came in stays as it was, its room behind too.
func wantDrain(t *testing.T, q outq.Queue, n int) (outq.Queue, string) {
	t.Helper()
	given := outq.Queue{Parts: roomy(q.Parts), Made: q.Made, Gone: q.Gone}
	y, b := outq.Drain(given, n)
	want, wantB := modelDrain(q, n)
	out := string(b)
	if out != wantB || !modelSame(y, want) {
		t.Errorf("Drain(%s, %d): %s %s, not %s %s", show(q), n, show(y), shorten(out), show(want), shorten(wantB))
	}
	if len(b) > 0 {
		wantOwn(t, y, given)
	}
	for i := range b[:cap(b)] {
		b[:cap(b)][i] = '?'
	}
	again, b2 := outq.Drain(given, n)
	if string(b2) != wantB || !modelSame(again, want) || !modelSame(y, want) {
		t.Errorf("Drain(%s, %d) again: %s %s", show(q), n, show(again), shorten(string(b2)))
	}
	wantStill(t, given, q)
	return y, out
}

// wantOwn writes over an answer's parts and what is behind them, and wants what was given to stay; the answer is put back.
func wantOwn(t *testing.T, y, given outq.Queue) {
	t.Helper()
	all := y.Parts[:cap(y.Parts)]
	was := slices.Clone(all)
	before := slices.Clone(given.Parts[:cap(given.Parts)])
	for i := range all {
		all[i] = "written over"
	}
	if !slices.Equal(given.Parts[:cap(given.Parts)], before) {
		t.Errorf("an answer shares its parts with what came in: %s", show(given))
	}
	copy(all, was)
}

// wantStill wants a roomy copy of q, with its room, to be as it was.
func wantStill(t *testing.T, given, q outq.Queue) {
	t.Helper()
	n := len(q.Parts)
	behind := []string{"behind", "still behind", "the last"}
	if !modelSame(given, q) || !slices.Equal(given.Parts[:n+3][n:], behind) {
		t.Errorf("what came in was changed: %s, not %s", show(given), show(q))
	}
}

// refused are queues that Check refuses: of each error alone, and of each two.
func refused() []outq.Queue {
	return []outq.Queue{
		{Parts: of("")}, {Parts: of("", "ab"), Made: 2}, {Parts: of("ab", ""), Made: 9, Gone: 7}, {Parts: of("a", "", "b"), Made: 2},
		right(0, x(mostOut+1)), right(5, x(mostOut), "y"), right(0, x(mostOut-1), "y", "z"),
		{Made: -1, Gone: -1}, {Parts: of("abc"), Made: 2, Gone: -1}, right(mostWork-1, "ab"), right(mostWork + 1),
		{Parts: of("abc"), Made: 2}, {Parts: of("abc"), Made: 4}, {Made: 1}, {Gone: 1}, {Made: 4, Gone: 5}, {Parts: of("abc"), Made: 3, Gone: 3},
		right(0, x(mostOut+1), ""), right(-1, "abc", ""), {Parts: of("", "abc"), Made: 4},
		right(-1, x(mostOut+1)), {Parts: of(x(mostOut + 1))}, {Parts: of("abc"), Made: -3}, {Made: mostWork + 1, Gone: mostWork},
	}
}

// some are right queues of all kinds.
func some() []outq.Queue {
	return []outq.Queue{
		{}, {Parts: []string{}}, right(7), right(mostWork), right(0, "a"), right(0, "abc"), right(3, "abc", "de", "f"), right(0, "a", "b", "c", "d"),
		right(9, "\x00\xff", "é", "a"), right(mostWork-4, "ab", "c"), right(mostWork-3, "ab", "c"), right(1<<32, "abcd"),
		right(0, x(mostOut)), right(6, x(mostOut-1), "y"), right(6, "y", x(mostOut-1)), right(0, x(mostOut-1)), right(0, x(mostOut-2), "y"), right(mostWork-mostOut, x(mostOut)),
	}
}

func TestP19_1CheckOfParts(t *testing.T) {
	wantCheck(t, outq.Queue{}, 0)
	wantCheck(t, outq.Queue{Parts: []string{}}, 0)
	wantCheck(t, outq.Queue{Parts: roomy(nil)}, 0)
	for _, parts := range [][]string{of(""), of("", "ab"), of("ab", "cd", ""), of("ab", "", "cd"), of("", ""), of("a", "", "", "b"), of(x(mostOut), "")} {
		wantCheck(t, right(0, parts...), 4)
		wantCheck(t, right(77, parts...), 4)
	}
	many := slices.Repeat([]string{"x"}, mostOut-1)
	for _, parts := range [][]string{of(x(mostOut - 1)), of(x(mostOut-2), "y"), of("y", x(mostOut-2)), of(x(30000), x(35535)), many} {
		q := right(5, parts...)
		wantCheck(t, q, 0)
		q.Parts, q.Made = append(slices.Clone(parts), "1"), q.Made+1
		wantCheck(t, q, 0)
		q.Parts, q.Made = append(slices.Clone(q.Parts), "2"), q.Made+1
		wantCheck(t, q, 7)
		q.Parts, q.Made = append(slices.Clone(q.Parts), x(2*mostOut)), q.Made+2*mostOut
		wantCheck(t, q, 7)
	}
	wantCheck(t, right(0, x(mostOut)), 0)
	wantCheck(t, right(0, x(mostOut+1)), 7)
	wantCheck(t, right(0, x(mostOut), x(mostOut)), 7)
	wantCheck(t, right(0, " ", "\x00", "\n"), 0)
}

func TestP19_1CheckOfCounts(t *testing.T) {
	for _, parts := range [][]string{nil, of("a"), of("ab", "c"), of(x(mostOut))} {
		for _, made := range counts {
			for _, gone := range counts {
				q := outq.Queue{Parts: parts, Made: made, Gone: gone}
				wantCheck(t, q, modelCheck(q))
			}
			for d := -2; d <= 2; d++ {
				n := len(strings.Join(parts, ""))
				q := outq.Queue{Parts: parts, Made: made, Gone: made - n + d} // the sum may leave an int's range: the model knows
				wantCheck(t, q, modelCheck(q))
				q = outq.Queue{Parts: parts, Made: made + n + d, Gone: made}
				wantCheck(t, q, modelCheck(q))
			}
		}
	}
	for _, far := range []int{math.MinInt, -1, mostWork + 1, math.MaxInt} {
		wantCheck(t, outq.Queue{Made: far, Gone: far}, 8)
		wantCheck(t, outq.Queue{Made: far}, 8)
		wantCheck(t, outq.Queue{Gone: far}, 8)
	}
	wantCheck(t, right(0, "abc"), 0)
	wantCheck(t, right(mostWork-3, "abc"), 0)
	wantCheck(t, right(mostWork-2, "abc"), 8)
	wantCheck(t, right(mostWork), 0)
	wantCheck(t, right(-1, "abc"), 8)
	for _, gone := range []int{0, 1, 100, mostWork - 4} {
		wantCheck(t, outq.Queue{Parts: of("abc"), Made: gone + 3, Gone: gone}, 0)
		wantCheck(t, outq.Queue{Parts: of("abc"), Made: gone + 2, Gone: gone}, 10)
		wantCheck(t, outq.Queue{Parts: of("abc"), Made: gone + 4, Gone: gone}, 10)
		wantCheck(t, outq.Queue{Parts: of("abc"), Made: gone, Gone: gone + 3}, 10)
	}
	wantCheck(t, outq.Queue{Parts: of("abc"), Made: math.MinInt + 2, Gone: math.MaxInt}, 8)
	wantCheck(t, outq.Queue{Parts: of("abc"), Made: mostWork, Gone: mostWork}, 10)
}

// Of two faults at once Check tells the one that the chapter names first: each two are met here, and each one alone.
func TestP19_1CheckTellsTheFirst(t *testing.T) {
	met := map[[2]api.Errno]int{}
	for _, parts := range [][]string{nil, of("ab"), of(""), of(x(mostOut + 1)), of("ab", ""), of(x(mostOut+1), "")} {
		n := len(strings.Join(parts, ""))
		for _, made := range []int{-1, 0, 2, 2 + mostOut, mostWork, mostWork + 1} {
			for _, gone := range []int{made - n, made, made + 1, -1, mostWork + 1} {
				q := outq.Queue{Parts: parts, Made: made, Gone: gone}
				l := faults(q)
				switch len(l) {
				case 1:
					met[[2]api.Errno{l[0]}]++
				case 2:
					met[[2]api.Errno{l[0], l[1]}]++
				}
				wantCheck(t, q, modelCheck(q))
			}
		}
	}
	for _, two := range [][2]api.Errno{{4}, {7}, {8}, {10}, {4, 7}, {4, 8}, {4, 10}, {7, 8}, {7, 10}, {8, 10}} {
		if met[two] == 0 {
			t.Errorf("not met: %d and %d", two[0], two[1])
		}
	}
	wantCheck(t, right(0, x(mostOut+1), ""), 4)
	wantCheck(t, right(-1, "abc", ""), 4)
	wantCheck(t, outq.Queue{Parts: of("", "abc"), Made: 4}, 4)
	wantCheck(t, right(-1, x(mostOut+1)), 7)
	wantCheck(t, outq.Queue{Parts: of(x(mostOut + 1))}, 7)
	wantCheck(t, outq.Queue{Parts: of("abc"), Made: -3}, 8)
	for _, q := range refused() {
		wantCheck(t, q, modelCheck(q))
		if modelCheck(q) == 0 {
			t.Errorf("not refused: %s", show(q))
		}
	}
}

func TestP19_1LenAndRoom(t *testing.T) {
	for _, c := range []struct {
		q    outq.Queue
		n    int
		room int
	}{
		{outq.Queue{}, 0, 65536}, {right(99), 0, 65536}, {right(0, "a"), 1, 65535}, {right(4, "abc", "de", "f"), 6, 65530}, {right(0, "é"), 2, 65534},
		{right(0, x(65535)), 65535, 1}, {right(0, x(65536)), 65536, 0}, {right(0, x(65530), "abcde"), 65535, 1}, {right(mostWork-1, "a"), 1, 65535}, {right(mostWork), 0, 65536},
		{right(0, "a", "", "b"), 2, 0}, {right(0, x(65537)), 65537, 0}, {right(0, x(65536), x(65536), "a"), 131073, 0}, {right(-1, "abc"), 3, 0}, {outq.Queue{Parts: of("abc"), Made: 4}, 3, 0}, {outq.Queue{Made: 1}, 0, 0}, {outq.Queue{Gone: -1}, 0, 0},
	} {
		if n := outq.Len(c.q); n != c.n {
			t.Errorf("Len(%s): %d, not %d", show(c.q), n, c.n)
		}
		if n := outq.Room(c.q); n != c.room {
			t.Errorf("Room(%s): %d, not %d", show(c.q), n, c.room)
		}
	}
	for _, q := range append(some(), refused()...) {
		wantCheck(t, q, modelCheck(q))
	}
}

func TestP19_1Same(t *testing.T) {
	want := func(a, b outq.Queue, is bool) {
		t.Helper()
		if outq.Same(a, b) != is || outq.Same(b, a) != is {
			t.Errorf("Same(%s, %s) is not %t", show(a), show(b), is)
		}
	}
	q := outq.Queue{Parts: of("ab", "c"), Made: 9, Gone: 6}
	want(q, outq.Queue{Parts: roomy(of("ab", "c")), Made: 9, Gone: 6}, true)
	for _, d := range []int{-1, 1, 1 << 32, math.MinInt} {
		want(q, outq.Queue{Parts: q.Parts, Made: q.Made + d, Gone: q.Gone}, false)
		want(q, outq.Queue{Parts: q.Parts, Made: q.Made, Gone: q.Gone + d}, false)
		want(q, outq.Queue{Parts: q.Parts, Made: q.Made + d, Gone: q.Gone + d}, false)
	}
	want(q, outq.Queue{Parts: q.Parts, Made: q.Gone, Gone: q.Made}, false)
	for _, parts := range [][]string{nil, of("ab"), of("c"), of("abc"), of("a", "bc"), of("a", "b", "c"), of("ab", "c", ""), of("", "ab", "c"), of("ab", "", "c"), of("c", "ab"), of("ab", "d"), of("aB", "c"), of("ab", "c", "d"), of("ab", "c\x00")} {
		want(q, outq.Queue{Parts: parts, Made: 9, Gone: 6}, false)
	}
	want(outq.Queue{}, outq.Queue{Parts: []string{}}, true)
	want(outq.Queue{}, outq.Queue{Parts: roomy(nil)}, true)
	want(outq.Queue{}, outq.Queue{Parts: of("")}, false)
	all := append(some(), refused()...)
	for _, a := range all {
		want(a, outq.Queue{Parts: slices.Clone(a.Parts), Made: a.Made, Gone: a.Gone}, true)
		for _, b := range all {
			want(a, b, modelSame(a, b))
		}
	}
}

func TestP19_2PushOfWhatMayNotBe(t *testing.T) {
	for _, q := range refused() {
		for _, b := range [][]byte{nil, {}, []byte("a"), []byte(x(mostOut)), []byte(x(mostOut + 1))} {
			y := wantPush(t, q, b)
			if _, e := outq.Push(q, b); e == 0 || e != modelCheck(q) || !modelSame(y, q) {
				t.Errorf("Push(%s): %d %s", show(q), e, show(y))
			}
		}
	}
}

func TestP19_2PushOfNothing(t *testing.T) {
	for _, q := range some() {
		for _, b := range [][]byte{nil, {}, []byte("room")[:0]} {
			if y := wantPush(t, q, b); !modelSame(y, q) {
				t.Errorf("Push(%s) of nothing: %s", show(q), show(y))
			}
		}
	}
}

func TestP19_2PushToTheBrim(t *testing.T) {
	for _, q := range some() {
		room := outq.Room(q)
		for _, n := range []int{1, 2, room - 1, room, room + 1, mostOut, mostOut + 1, 2 * mostOut} {
			wantPush(t, q, []byte(x(max(0, n))))
		}
	}
	for gone := mostWork - 8; gone <= mostWork; gone++ {
		for _, parts := range [][]string{nil, of("a"), of("ab", "c")} {
			for n := range 10 {
				wantPush(t, right(gone, parts...), []byte("0123456789")[:n])
			}
		}
	}
	want := func(q outq.Queue, n int, want api.Errno) {
		t.Helper()
		y := wantPush(t, q, []byte(x(n)))
		if _, e := outq.Push(q, []byte(x(n))); e != want {
			t.Errorf("Push(%s, %d bytes): %d, not %d", show(q), n, e, want)
		}
		if want == 0 && (y.Made != q.Made+n || y.Gone != q.Gone || len(y.Parts) != len(q.Parts)+1 || y.Parts[len(q.Parts)] != x(n)) {
			t.Errorf("Push(%s, %d bytes): %s", show(q), n, show(y))
		}
	}
	want(outq.Queue{}, mostOut, 0)
	want(outq.Queue{}, mostOut+1, 7)
	want(right(0, x(mostOut)), 1, 7)
	want(right(0, x(mostOut-5)), 5, 0)
	want(right(0, x(mostOut-5)), 6, 7)
	want(right(mostWork), 1, 7)
	want(right(mostWork-1), 1, 0)
	want(right(mostWork-1), 2, 7)
	want(right(mostWork-mostOut), mostOut, 0)
	want(right(mostWork-mostOut), mostOut+1, 7)
	want(right(mostWork-mostOut+1), mostOut, 7)
	want(right(mostWork-mostOut, x(mostOut)), 1, 7)
	want(right(mostWork-10, "abcde"), 5, 0)
	want(right(mostWork-10, "abcde"), 6, 7)
}

func TestP19_2PushInOrder(t *testing.T) {
	q := outq.Queue{}
	for i, s := range []string{"first", "", "second", "3", "\x00\xff"} {
		q = wantPush(t, q, []byte(s))
		if i == 0 {
			q, _ = wantDrain(t, q, 2)
		}
	}
	if want := (outq.Queue{Parts: of("rst", "second", "3", "\x00\xff"), Made: 14, Gone: 2}); !modelSame(q, want) {
		t.Errorf("%s, not %s", show(q), show(want))
	}
}

// What is put may be changed behind it, and a queue onto which two are put gives two queues that have nothing in common.
func TestP19_2PushKeepsNothing(t *testing.T) {
	b := []byte("abc")
	q, _ := outq.Push(outq.Queue{}, b)
	copy(b, "???")
	if q.Parts[0] != "abc" {
		t.Errorf("the bytes are kept: %s", show(q))
	}
	for n := range 9 {
		from := outq.Queue{}
		for range n {
			from, _ = outq.Push(from, []byte("ab"))
		}
		one, _ := outq.Push(from, []byte("one"))
		two, _ := outq.Push(from, []byte("two"))
		three, out := outq.Drain(one, 3)
		four, _ := outq.Push(one, []byte("four"))
		nothing, _ := outq.Push(one, nil)
		five, _ := outq.Push(nothing, []byte("five"))
		six, _ := outq.Push(three, []byte("six"))
		seven, _ := outq.Push(three, []byte("seven"))
		ahead := strings.Repeat("ab", n)
		for _, c := range []struct {
			q    outq.Queue
			want string
		}{
			{from, ahead}, {one, ahead + "one"}, {two, ahead + "two"}, {three, (ahead + "one")[3:]}, {four, ahead + "onefour"},
			{nothing, ahead + "one"}, {five, ahead + "onefive"}, {six, (ahead + "one")[3:] + "six"}, {seven, (ahead + "one")[3:] + "seven"},
		} {
			if got := strings.Join(c.q.Parts, ""); got != c.want || outq.Check(c.q) != 0 {
				t.Errorf("%s, not %s", show(c.q), c.want)
			}
		}
		if string(out) != (ahead + "one")[:3] {
			t.Errorf("went: %s", out)
		}
	}
}

func TestP19_2Drain(t *testing.T) {
	q := right(100, "abc", "d", "efgh")
	for _, c := range []struct {
		n     int
		out   string
		parts []string
	}{
		{math.MinInt, "", of("abc", "d", "efgh")}, {-1, "", of("abc", "d", "efgh")}, {0, "", of("abc", "d", "efgh")}, {1, "a", of("bc", "d", "efgh")},
		{2, "ab", of("c", "d", "efgh")}, {3, "abc", of("d", "efgh")}, {4, "abcd", of("efgh")}, {5, "abcde", of("fgh")}, {6, "abcdef", of("gh")},
		{7, "abcdefg", of("h")}, {8, "abcdefgh", nil}, {9, "abcdefgh", nil}, {mostOut, "abcdefgh", nil}, {math.MaxInt, "abcdefgh", nil},
	} {
		y, out := wantDrain(t, q, c.n)
		if out != c.out || !modelSame(y, outq.Queue{Parts: c.parts, Made: 108, Gone: 100 + len(c.out)}) {
			t.Errorf("Drain(%s, %d): %s %s", show(q), c.n, show(y), out)
		}
	}
}

func TestP19_2DrainOfAllKinds(t *testing.T) {
	for _, q := range append(some(), refused()...) {
		ends := slices.Clone(goes)
		end := 0
		for _, p := range q.Parts {
			end += len(p)
			ends = append(ends, end-1, end, end+1)
		}
		for _, n := range ends {
			y, out := wantDrain(t, q, n)
			if y.Made != q.Made || y.Gone != q.Gone+len(out) {
				t.Errorf("Drain(%s, %d): %s", show(q), n, show(y))
			}
			if (n < 1 || outq.Check(q) != 0) && (out != "" || !modelSame(y, q)) {
				t.Errorf("Drain(%s, %d): %s %s", show(q), n, show(y), shorten(out))
			}
		}
	}
}

// All short queues, taken off at each place, and then again at each place.
func TestP19_2DrainOfShortQueues(t *testing.T) {
	var each func(parts []string, left int)
	each = func(parts []string, left int) {
		q := right(7, parts...)
		for n := -1; n <= 8; n++ {
			y, _ := wantDrain(t, q, n)
			wantPush(t, y, []byte("new"))
			for m := range 4 {
				wantDrain(t, y, m)
			}
		}
		for k := 1; k <= min(left, 4); k++ {
			each(append(slices.Clone(parts), "abcdefg"[7-left:7-left+k]), left-k)
		}
	}
	each(nil, 7)
}

// What Drain answers is new each time: a part that only begins to go, and one that goes wholly.
func TestP19_2DrainIsNew(t *testing.T) {
	q := right(0, "abcdef", "gh")
	for n := 1; n <= 8; n++ {
		y, b := outq.Drain(q, n)
		_, again := outq.Drain(q, n)
		z, rest := outq.Drain(y, 9)
		wasRest := string(rest)
		for i := range b {
			b[i] = '?'
		}
		if string(again) != "abcdefgh"[:n] || string(rest) != wasRest || wasRest != "abcdefgh"[n:] || strings.Join(q.Parts, "|") != "abcdef|gh" {
			t.Errorf("%d: %s, %s, %s", n, again, rest, show(q))
		}
		if outq.Len(z) != 0 || strings.Join(y.Parts, "") != wasRest {
			t.Errorf("%d: %s, %s", n, show(y), show(z))
		}
	}
}

// The room behind what is left has nothing of what went.
func TestP19_2WhatWentIsCleared(t *testing.T) {
	for n := 1; n <= 8; n++ {
		y, _ := outq.Drain(right(0, "abc", "d", "ef", "gh"), n)
		for _, p := range y.Parts[len(y.Parts):cap(y.Parts)] {
			if p != "" {
				t.Errorf("%d: %q is kept", n, p)
			}
		}
	}
}

func TestP19_3Example(t *testing.T) {
	q := wantPush(t, outq.Queue{}, []byte("ab"))
	q = wantPush(t, q, []byte("c"))
	q, out := wantDrain(t, q, 2)
	if out != "ab" || !modelSame(q, outq.Queue{Parts: of("c"), Made: 3, Gone: 2}) {
		t.Errorf("%s %s", out, show(q))
	}
	q, out = wantDrain(t, q, 9)
	if out != "c" || !modelSame(q, outq.Queue{Made: 3, Gone: 3}) {
		t.Errorf("%s %s", out, show(q))
	}
}

// journal is a queue, and all that came and went.
type journal struct {
	q    outq.Queue
	base int
	came []byte
	went []byte
}

func (j *journal) push(t *testing.T, b []byte) {
	t.Helper()
	q, e := outq.Push(j.q, b)
	if len(b) > mostOut-(len(j.came)-len(j.went)) || len(b) > mostWork-j.base-len(j.came) {
		if e != 7 || !modelSame(q, j.q) {
			t.Fatalf("%d bytes onto %s: %d", len(b), show(j.q), e)
		}
		return
	}
	if e != 0 {
		t.Fatalf("%d bytes onto %s: %d", len(b), show(j.q), e)
	}
	j.q, j.came = q, append(j.came, b...)
	clear(b)
	j.look(t)
}

func (j *journal) drain(t *testing.T, n int) {
	t.Helper()
	q, b := outq.Drain(j.q, n)
	if want := max(0, min(n, len(j.came)-len(j.went))); len(b) != want {
		t.Fatalf("Drain(%s, %d): %d bytes", show(j.q), n, len(b))
	}
	j.q, j.went = q, append(j.went, b...)
	j.look(t)
}

// look holds what went and what is still there against what came.
func (j *journal) look(t *testing.T) {
	t.Helper()
	left := len(j.came) - len(j.went)
	if !bytes.Equal(append(slices.Clone(j.went), strings.Join(j.q.Parts, "")...), j.came) {
		t.Fatalf("not what came: %s", show(j.q))
	}
	if j.q.Made != j.base+len(j.came) || j.q.Gone != j.base+len(j.went) || outq.Check(j.q) != 0 || outq.Len(j.q) != left || outq.Room(j.q) != mostOut-left {
		t.Fatalf("%s: %d, Len %d, Room %d", show(j.q), outq.Check(j.q), outq.Len(j.q), outq.Room(j.q))
	}
}

func random(r *rand.Rand, n int) []byte {
	b := make([]byte, n)
	for i := range b {
		b[i] = byte(r.Intn(256))
	}
	return b
}

func TestP19_3WhatCameGoesOut(t *testing.T) {
	r := rand.New(rand.NewSource(19))
	for round := range 300 {
		j := journal{base: []int{0, 5, 1 << 32, mostWork - 40, mostWork - 300}[r.Intn(5)]}
		j.q = right(j.base)
		for range 60 {
			switch r.Intn(3) {
			case 0, 1:
				j.push(t, random(r, r.Intn(1+round%20)))
			case 2:
				j.drain(t, r.Intn(2+round%30)-1)
			}
		}
		j.drain(t, math.MaxInt)
		if !bytes.Equal(j.went, j.came) || len(j.q.Parts) != 0 {
			t.Fatalf("%d: not all went", round)
		}
	}
	for range 20 {
		j := journal{}
		for range 30 {
			j.push(t, random(r, r.Intn(30000)))
			j.drain(t, r.Intn(25000))
		}
		j.push(t, random(r, outq.Room(j.q)))
		j.push(t, random(r, 1))
		for len(j.went) < len(j.came) {
			j.drain(t, 1+r.Intn(9000))
		}
		if !bytes.Equal(j.went, j.came) {
			t.Fatal("not all went")
		}
	}
}

// wantGoes takes bytes off in as many goes as there are numbers, and wants what one go gives.
func wantGoes(t *testing.T, q outq.Queue, ns ...int) {
	t.Helper()
	sum, went, y := 0, "", q
	for _, n := range ns {
		var b []byte
		y, b = outq.Drain(y, n)
		sum, went = sum+n, went+string(b)
	}
	z, once := outq.Drain(q, sum)
	if went != string(once) || !outq.Same(y, z) || !modelSame(y, z) {
		t.Errorf("Drain(%s) in goes of %v: %s %s, not %s %s", show(q), ns, shorten(went), show(y), shorten(string(once)), show(z))
	}
}

func TestP19_3HoweverItIsCut(t *testing.T) {
	r := rand.New(rand.NewSource(193))
	for _, q := range some() {
		for range 10 {
			n := outq.Len(q)
			wantGoes(t, q, r.Intn(n+2), r.Intn(n+2))
			wantGoes(t, q, r.Intn(n+2), r.Intn(n+2), r.Intn(n+2))
		}
	}
	for range 60 {
		q := right(r.Intn(100))
		for range r.Intn(6) {
			q, _ = outq.Push(q, random(r, r.Intn(5)))
		}
		n := outq.Len(q) + 1
		for a := range n + 1 {
			for b := range n + 1 - a {
				wantGoes(t, q, a, b)
				for c := range n + 1 - a - b {
					wantGoes(t, q, a, b, c)
				}
			}
		}
	}
}

// In what parts bytes came is nothing to what goes out.
func TestP19_3HoweverItCame(t *testing.T) {
	r := rand.New(rand.NewSource(194))
	for range 200 {
		all := random(r, 1+r.Intn(40))
		whole, _ := outq.Push(outq.Queue{}, all)
		cut := outq.Queue{}
		for rest := all; len(rest) > 0; {
			n := 1 + r.Intn(len(rest))
			cut, _ = outq.Push(cut, rest[:n])
			rest = rest[n:]
		}
		for outq.Len(whole) > 0 {
			n := 1 + r.Intn(9)
			var a, b []byte
			whole, a = outq.Drain(whole, n)
			cut, b = outq.Drain(cut, n)
			if !bytes.Equal(a, b) || outq.Len(whole) != outq.Len(cut) || whole.Gone != cut.Gone || whole.Made != cut.Made {
				t.Fatalf("%q, and %q: %s, %s", a, b, show(whole), show(cut))
			}
		}
	}
}
