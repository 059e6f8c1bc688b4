package conn

import (
	"slices"

	"footman/api"
	"footman/block"
	"footman/frame"
	"footman/henc"
	"footman/ids"
	"footman/life"
	"footman/outq"
	"footman/response"
	"footman/unack"
	"footman/window"
)

const headSize = 9 // bytes of a frame ahead of its payload

// work is a connection at work: its state, and what is to be told.
type work struct {
	State
	events []Event
}

// begin lets a connection work on memory of its own: what came in stays as it is, whatever is done.
func begin(st State) *work {
	st.Dec.Table.List = slices.Clone(st.Dec.Table.List)
	st.Enc.Table.List = slices.Clone(st.Enc.Table.List)
	st.IDs.Open = slices.Clone(st.IDs.Open)
	st.IDs.Cut = slices.Clone(st.IDs.Cut)
	st.List = slices.Clone(st.List)
	st.Out.Parts = slices.Clone(st.Out.Parts)
	st.Sent = slices.Clone(st.Sent)
	for i, x := range st.Sent {
		st.Sent[i].Pairs = slices.Clone(x.Pairs)
	}
	return &work{State: st}
}

func (w *work) tell(e Event) { w.events = append(w.events, e) }

// send sends a frame; the one for which there is no room is the last one that is tried.
func (w *work) send(f frame.Frame) {
	if w.Dead {
		return
	}
	out, e := pushed(w.Out, f)
	if e != api.OK {
		w.Dead, w.Code = true, api.Calm
		return
	}
	w.Out = out
}

// pushed is a queue with a frame behind.
func pushed(q outq.Queue, f frame.Frame) (outq.Queue, api.Errno) {
	b, e := frame.Put(f)
	if e != api.OK {
		return q, e
	}
	return outq.Push(q, b)
}

func (w *work) sendAway(code api.Code) {
	w.send(frame.Frame{Type: api.GoAway, Last: w.IDs.Last, Code: uint32(code)})
}

// set sends settings, which wait for their acknowledgement from now on.
func (w *work) set(l []api.Pair) {
	w.send(frame.Frame{Type: api.Settings, Pairs: l})
	w.Sent, _ = unack.Push(w.Sent, l, w.Now) // who sends settings asks ahead whether there may be more
}

// fail ends the connection, and all streams with it.
func (w *work) fail(code api.Code) {
	w.sendAway(code)
	if !w.Dead {
		w.Dead, w.Code = true, code
	}
	for _, s := range w.List {
		w.tell(Event{Kind: Gone, Stream: s.ID})
	}
	w.List = nil
	for _, id := range w.IDs.Open {
		w.IDs = ids.End(w.IDs, id, false)
	}
}

// cut cuts a stream; one that the list has not was never told of.
func (w *work) cut(id int, code api.Code) {
	w.send(frame.Frame{Type: api.Reset, Stream: id, Code: uint32(code)})
	w.end(id, true)
}

// end lets a stream be open no more, and tells of it.
func (w *work) end(id int, cut bool) {
	if w.place(id) >= 0 {
		w.tell(Event{Kind: Gone, Stream: id})
	}
	w.leave(id, cut)
}

// leave lets a stream be open no more.
func (w *work) leave(id int, cut bool) {
	w.IDs = ids.End(w.IDs, id, cut)
	if i := w.place(id); i >= 0 {
		w.List = slices.Delete(w.List, i, i+1)
	}
}

// settle puts a stream back into its place; one whose state is over has none any more, and who saw both its ends need not be told.
func (w *work) settle(s Stream) {
	if life.Over(s.State) {
		w.leave(s.ID, false)
	} else if i := w.place(s.ID); i >= 0 {
		w.List[i] = s
	}
}

// place is where a stream stands in the list; below 0, if it does not.
func (w *work) place(id int) int {
	return slices.IndexFunc(w.List, func(s Stream) bool { return s.ID == id })
}

// find is a stream of the list; a zero one, if it has none of that number.
func (w *work) find(id int) Stream {
	if i := w.place(id); i >= 0 {
		return w.List[i]
	}
	return Stream{}
}

// asked is the stream of a request to which something may be said.
func (w *work) asked(id int) (Stream, api.Errno) {
	if w.Dead {
		return Stream{}, api.ErrState
	}
	i := w.place(id)
	if i < 0 {
		return Stream{}, api.ErrNone
	}
	return w.List[i], api.OK
}

// answer sends an answer's fields; its body waits for the windows.
func (w *work) answer(s Stream, fields []api.Field, body int) {
	var b []byte
	w.Enc, b, _ = henc.Block(w.Enc, fields) // an answer's fields are few and short
	parts, _ := block.Parts(s.ID, b, body == 0, min(w.Peer.Frame, api.MaxFrame))
	for _, f := range parts {
		w.send(f)
	}
	s.State, _ = life.Step(s.State, life.Event{Kind: life.SendHeaders, End: body == 0})
	s.Told, s.From, s.Left = true, 0, body
	w.settle(s)
}

// pump sends as much of all bodies as may go.
func (w *work) pump() {
	for _, s := range slices.Clone(w.List) {
		for n := w.may(s); n > 0; n = w.may(s) {
			s = w.pour(s, n)
		}
		w.settle(s)
	}
}

// may is how many bytes of a stream's body may go in one frame now; of one that was not answered nothing is left.
func (w *work) may(s Stream) int {
	n := window.May(w.Send, s.Send, min(w.Peer.Frame, Chunk), s.Left)
	if w.Dead || outq.Room(w.Out) < n+headSize+Reserve {
		return 0
	}
	return n
}

// pour sends the next n bytes of a stream's body.
func (w *work) pour(s Stream, n int) Stream {
	f := frame.Frame{Type: api.Data, Stream: s.ID, Data: string(response.Body(s.From, n))}
	last := n == s.Left
	if last {
		f.Flags = api.EndStream
	}
	w.send(f)
	w.Send, _ = window.Take(w.Send, n) // as many as both windows have, by may
	s.Send, _ = window.Take(s.Send, n)
	s.State, _ = life.Step(s.State, life.Event{Kind: life.SendData, End: last})
	s.From += n
	s.Left -= n
	return s
}
