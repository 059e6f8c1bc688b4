package conn

import (
	"footman/api"
	"footman/block"
	"footman/frame"
	"footman/hdec"
	"footman/henc"
	"footman/ids"
	"footman/life"
	"footman/request"
	"footman/sets"
	"footman/split"
	"footman/unack"
	"footman/window"
)

// feed takes bytes that go no further than a frame's end: so there is a frame, or a fault, or neither; and nothing is held of what stands behind the frame that kills a connection, in whatever pieces it comes.
func (w *work) feed(b []byte) {
	next, l, code := split.Feed(w.Split, b)
	w.Split = next
	for _, raw := range l {
		w.takeRaw(raw)
		w.pump()
	}
	if code != api.NoError {
		w.fail(code)
	}
}

func (w *work) takeRaw(raw split.Raw) {
	if !w.Begun && (raw.Head.Type != api.Settings || raw.Head.Flags&api.Ack != 0) {
		w.fail(api.ProtocolError)
		return
	}
	w.Begun = true
	if block.Open(w.Block) && raw.Head.Type != api.Continuation {
		w.fail(api.ProtocolError)
		return
	}
	f, fault := frame.Read(raw.Head, raw.Data)
	if fault.Code != api.NoError {
		w.takeFault(fault)
		return
	}
	w.takeFrame(f)
}

// takeFault takes a frame that can't be read. A fault of the connection is one of stream 0, which is Bad as all are that are no client's.
func (w *work) takeFault(x frame.Fault) {
	switch ids.Class(w.IDs, x.Stream) {
	case ids.Open:
		w.cut(x.Stream, x.Code)
	case ids.Idle, ids.Bad:
		w.fail(x.Code)
	}
}

// takeFrame takes a frame; those of other types count for nothing.
func (w *work) takeFrame(f frame.Frame) {
	isAck := f.Flags&api.Ack != 0
	switch f.Type {
	case api.Headers, api.Continuation:
		w.takePart(f)
	case api.Data:
		w.takeData(f)
	case api.Reset:
		w.takeReset(f.Stream)
	case api.Settings:
		if isAck {
			w.takeAck()
		} else {
			w.takeSettings(f.Pairs)
		}
	case api.Ping:
		if !isAck {
			w.send(frame.Frame{Type: api.Ping, Flags: api.Ack, Data: f.Data})
		}
	case api.WindowUpdate:
		w.takeUpdate(f)
	}
}

// takePart takes a piece of a header block.
func (w *work) takePart(f frame.Frame) {
	next, whole, is, code := block.On(w.Block, f)
	if code != api.NoError {
		w.fail(code)
		return
	}
	w.Block = next
	if is {
		w.takeBlock(whole)
	}
}

// takeBlock reads a header block, whatever its stream is: the table that it changes is the connection's.
func (w *work) takeBlock(b block.Whole) {
	dec, l, fits, e := hdec.Block(w.Dec, []byte(b.Data))
	if e != api.OK {
		w.fail(api.CompressionError)
		return
	}
	w.Dec = dec
	switch ids.Class(w.IDs, b.Stream) {
	case ids.Bad:
		w.fail(api.ProtocolError)
	case ids.Gone:
		w.fail(api.StreamClosed)
	case ids.Idle:
		w.takeRequest(b, l, fits)
	case ids.Open:
		w.takeTrailers(b, l, fits)
	}
}

func (w *work) takeRequest(b block.Whole, l []api.Field, fits bool) {
	table, code := ids.Begin(w.IDs, b.Stream)
	if code != api.NoError {
		w.fail(code)
		return
	}
	w.IDs = table
	q, isRight := request.Read(l, b.End)
	switch {
	case !fits:
		w.cut(b.Stream, api.Calm)
	case !isRight:
		w.cut(b.Stream, api.ProtocolError)
	default:
		state, _ := life.Step(life.Idle, life.Event{Kind: life.TakeHeaders, End: b.End})
		w.List = append(w.List, Stream{ID: b.Stream, State: state, Send: w.Peer.Window, Recv: api.Window, Want: q.Length})
		w.tell(Event{Kind: Asked, Stream: b.Stream, Req: q, End: b.End})
	}
}

func (w *work) takeTrailers(b block.Whole, l []api.Field, fits bool) {
	s := w.find(b.Stream)
	state, v := life.Step(s.State, life.Event{Kind: life.TakeHeaders, End: b.End})
	switch {
	case v.Code != api.NoError:
		w.cut(s.ID, v.Code)
	case !fits:
		w.cut(s.ID, api.Calm)
	case !request.Trailers(l) || !fitsWant(s, b.End):
		w.cut(s.ID, api.ProtocolError)
	default:
		s.State = state
		w.settle(s)
	}
}

// fitsWant tells whether as many bytes came of a stream as were told: at its end just these, ahead of it no more.
func fitsWant(s Stream, end bool) bool {
	switch {
	case s.Want < 0:
		return true
	case end:
		return s.Got == s.Want
	}
	return s.Got <= s.Want
}

func (w *work) takeData(f frame.Frame) {
	class := ids.Class(w.IDs, f.Stream)
	switch class {
	case ids.Bad, ids.Idle:
		w.fail(api.ProtocolError)
		return
	case ids.Gone:
		w.fail(api.StreamClosed)
		return
	}
	left, is := window.Take(w.Recv, frame.Length(f))
	if !is {
		w.fail(api.FlowError)
		return
	}
	w.Recv = left
	if class == ids.Open {
		w.takeBody(f)
	}
	w.refill()
}

// takeBody takes DATA of a stream that is open, which the connection's window had room for.
func (w *work) takeBody(f frame.Frame) {
	s := w.find(f.Stream)
	end := f.Flags&api.EndStream != 0
	state, v := life.Step(s.State, life.Event{Kind: life.TakeData, End: end})
	if v.Code != api.NoError {
		w.cut(s.ID, v.Code)
		return
	}
	left, is := window.Take(s.Recv, frame.Length(f))
	if !is {
		w.cut(s.ID, api.FlowError)
		return
	}
	s.State, s.Recv = state, left
	s.Got += len(f.Data)
	if !fitsWant(s, end) {
		w.cut(s.ID, api.ProtocolError)
		return
	}
	w.settle(s)
}

// refill gives the other side its window of the connection anew.
func (w *work) refill() {
	if w.Dead || w.Recv >= Low {
		return
	}
	w.send(frame.Frame{Type: api.WindowUpdate, Inc: api.Window - w.Recv})
	w.Recv = api.Window
}

func (w *work) takeReset(id int) {
	switch ids.Class(w.IDs, id) {
	case ids.Open:
		w.end(id, false)
	case ids.Idle, ids.Bad:
		w.fail(api.ProtocolError)
	}
}

func (w *work) takeAck() {
	left, l, is := unack.Ack(w.Sent)
	if !is {
		w.fail(api.ProtocolError)
		return
	}
	w.Sent = left
	for _, p := range l {
		if p.ID == api.SetStreams {
			w.Held = int(p.Value)
		}
	}
}

func (w *work) takeSettings(l []api.Pair) {
	peer, code := sets.Apply(w.Peer, l)
	if code != api.NoError {
		w.fail(code)
		return
	}
	for i, s := range w.List {
		n, code := window.Shift(s.Send, w.Peer.Window, peer.Window)
		if code != api.NoError {
			w.fail(api.FlowError)
			return
		}
		w.List[i].Send = n
	}
	w.Peer = peer
	w.Enc, _ = henc.Limit(w.Enc, peer.Table) // no setting is below 0
	w.send(frame.Frame{Type: api.Settings, Flags: api.Ack})
}

// takeUpdate takes what the other side lets go out more, on a stream, or on the connection.
func (w *work) takeUpdate(f frame.Frame) {
	if f.Stream == 0 {
		n, code := window.Give(w.Send, f.Inc)
		if code != api.NoError {
			w.fail(code)
			return
		}
		w.Send = n
		return
	}
	switch ids.Class(w.IDs, f.Stream) {
	case ids.Open:
		s := w.find(f.Stream)
		n, code := window.Give(s.Send, f.Inc)
		if code != api.NoError {
			w.cut(s.ID, code)
			return
		}
		s.Send = n
		w.settle(s)
	case ids.Idle, ids.Bad:
		w.fail(api.ProtocolError)
	}
}
