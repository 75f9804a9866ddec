package tests

import (
	"fmt"
	"slices"
	"strings"
	"testing"

	"loop.example/g00314/impl"
)

// gateWork is a gateway at work on a packet, by the document's words.
type gateWork struct {
	g      impl.Gateway
	inside bool
	sends  []impl.Send
}

func hopFor(g impl.Gateway, a string) int64 {
	return longest(signRoutes(g.Routes, len(a)), signs(a))
}

func (w *gateWork) send(hop int64, text string) {
	w.sends = append(w.sends, impl.Send{Hop: hop, Text: text})
}

func (w *gateWork) say(dst string, text string) {
	hop := hopFor(w.g, dst)
	if hop == 0 {
		return
	}
	out := bucketTaken(w.g.Bucket, w.g.Now)
	w.g.Bucket = out.Bucket
	if out.Ok {
		w.send(hop, text)
	}
}

func (w *gateWork) sayOfFour(why impl.V4, kind int64, code int64, word int64) {
	if out := toldOfFour(w.g.Four1, why, kind, code, word); out.Code == impl.OK {
		w.say(out.Packet.Dst, layFour(out.Packet))
	}
}

func (w *gateWork) sayOfSix(why impl.V6, kind int64, code int64, word int64) {
	if out := toldOfSix(w.g.Six1, why, kind, code, word); out.Code == impl.OK {
		w.say(out.Packet.Dst, laySix(out.Packet))
	}
}

// sendFour tells of the packet why, if there is one, where q is too big.
func (w *gateWork) sendFour(hop int64, q impl.V4, why *impl.V4) int64 {
	switch {
	case int64(len(layFour(q))) <= w.g.Mtu:
		w.send(hop, layFour(q))
	case !q.Whole:
		for _, piece := range cutOf(q, w.g.Mtu) {
			w.send(hop, layFour(piece))
		}
	default:
		if why != nil {
			w.sayOfFour(*why, 3, 4, w.g.Mtu)
		}
		return impl.ErrBig
	}
	return impl.OK
}

func (w *gateWork) sendSix(hop int64, q impl.V6, why *impl.V6) int64 {
	if int64(len(laySix(q))) <= w.g.Mtu {
		w.send(hop, laySix(q))
		return impl.OK
	}
	if why != nil {
		w.sayOfSix(*why, 2, 0, w.g.Mtu)
	}
	return impl.ErrBig
}

// together is what a piece comes to: its packet's data, or the code that all ends with.
func (w *gateWork) together(p impl.Piece) (data string, code int64, done bool) {
	out := addedTo(w.g.Pieces, p, w.g.Now)
	if out.Code != impl.ErrForm {
		w.g.Pieces = out.Pieces
	}
	return out.Data, out.Code, out.Done
}

func (w *gateWork) four(came impl.V4) int64 {
	q, lent := came, slices.Contains(w.g.Pool.Addrs, came.Dst)
	switch {
	case came.Dst == w.g.Four1:
		return impl.ErrKind
	case came.Ttl < 2:
		w.sayOfFour(came, 11, 0, 0)
		return impl.ErrHops
	case !w.inside && !lent:
		return impl.ErrKind
	}
	q.Ttl--
	if hop := hopFor(w.g, q.Dst); w.inside && !lent && hop <= 500 {
		if hop == 0 {
			w.sayOfFour(came, 3, 0, 0)
			return impl.ErrNone
		}
		return w.sendFour(hop, q, &came)
	}
	why := &came
	if q.More || q.Off > 0 {
		data, code, done := w.together(impl.Piece{Src: q.Src, Dst: q.Dst, Proto: q.Proto, Id: q.Id, Off: q.Off, More: q.More, Data: q.Data})
		if !done {
			return code
		}
		q.Data, q.More, q.Off, q.Whole, why = data, false, 0, false, nil
		if !fourIsRight(q) {
			return impl.ErrForm
		}
	}
	return w.fourThrough(q, why, lent)
}

// fourThrough takes a packet in one piece through the pool.
func (w *gateWork) fourThrough(q impl.V4, why *impl.V4, lent bool) int64 {
	var out impl.NatOut
	switch {
	case w.inside && lent:
		out = cameBack(w.g.Pool, w.g.Bib, q, w.g.Now)
	case w.inside:
		out = wentOut(w.g.Pool, w.g.Bib, q, w.g.Now)
	default:
		out = cameIn(w.g.Pool, w.g.Bib, q, w.g.Now)
		if out.Code == impl.ErrKind {
			out = cameAsSix(w.g.Pool, w.g.Bib, w.g.Six, q, w.g.Now)
		}
	}
	if out.Code != impl.OK {
		return out.Code
	}
	w.g.Bib = out.Bib
	dst := out.Four.Dst + out.Six.Dst
	hop := hopFor(w.g, dst)
	switch {
	case hop == 0, !w.inside && hop > 500:
		return impl.ErrNone
	case len(dst) == 16:
		return w.sendSix(hop, out.Six, nil)
	}
	return w.sendFour(hop, out.Four, why)
}

func (w *gateWork) six(came impl.V6) int64 {
	q := came
	switch {
	case came.Dst == w.g.Six1:
		return impl.ErrKind
	case came.Hops < 2:
		w.sayOfSix(came, 3, 0, 0)
		return impl.ErrHops
	}
	q.Hops--
	if w.inside && strings.HasPrefix(signs(q.Dst), signs(w.g.Six.Addr)[:w.g.Six.Bits]) {
		return w.sixThrough(q)
	}
	hop := hopFor(w.g, q.Dst)
	switch {
	case hop == 0:
		w.sayOfSix(came, 1, 0, 0)
		return impl.ErrNone
	case !w.inside && hop > 500:
		return impl.ErrKind
	}
	return w.sendSix(hop, q, &came)
}

func (w *gateWork) sixThrough(q impl.V6) int64 {
	if q.Piece {
		data, code, done := w.together(impl.Piece{Src: q.Src, Dst: q.Dst, Proto: q.Next, Id: q.Id, Off: q.Off, More: q.More, Data: q.Data})
		if !done {
			return code
		}
		q.Data, q.More, q.Off, q.Id, q.Piece = data, false, 0, 0, false
		if !sixIsRight(q) {
			return impl.ErrForm
		}
	}
	out := wentAsFour(w.g.Pool, w.g.Bib, w.g.Six, q, w.g.Now)
	if out.Code != impl.OK {
		return out.Code
	}
	w.g.Bib = out.Bib
	hop := hopFor(w.g, out.Four.Dst)
	switch {
	case slices.Contains(w.g.Pool.Addrs, out.Four.Dst):
		return impl.ErrKind
	case hop < 501:
		return impl.ErrNone
	}
	return w.sendFour(hop, out.Four, nil)
}

// gateTold goes by the document's words.
func gateTold(g impl.Gateway, inside bool, text string) impl.GwOut {
	right := gateIsRight(g)
	switch {
	case len(text) > 20000 && right:
		return impl.GwOut{Gateway: g, Code: impl.ErrSize}
	case len(text) > 20000:
		return impl.GwOut{Code: impl.ErrSize}
	case !right:
		return impl.GwOut{Code: impl.ErrForm}
	}
	w := gateWork{g: g, inside: inside}
	code := int64(impl.ErrSyntax)
	switch four, six := fourOf(text), sixOf(text); (text + "\x00")[0] / 16 {
	case 4:
		if code = four.Code; code == impl.OK {
			code = w.four(four.Packet)
		}
	case 6:
		if code = six.Code; code == impl.OK {
			code = w.six(six.Packet)
		}
	}
	return impl.GwOut{Gateway: w.g, Sends: w.sends, Code: code}
}

func wantGwOut(t *testing.T, what string, got impl.GwOut, want impl.GwOut) {
	t.Helper()
	wantGate(t, what, got.Gateway, want.Gateway)
	wantNumber(t, what+": code", got.Code, want.Code)
	if !slices.Equal(got.Sends, want.Sends) {
		t.Errorf("%s: got the sends %s, want %s", what, sendsText(got.Sends), sendsText(want.Sends))
	}
}

func sendsText(l []impl.Send) string {
	var b strings.Builder
	for _, s := range l {
		fmt.Fprintf(&b, " (%d bytes to %d: %q)", len(s.Text), s.Hop, clipped(s.Text))
	}
	return fmt.Sprintf("%d%s", len(l), b.String())
}

// wantSound asks for promise 21: a right gateway, which has kept all that does not change, and sends to the hops of the
// longest prefixes, each a packet and no more, and not too big.
func wantSound(t *testing.T, what string, g impl.Gateway, got impl.GwOut) {
	t.Helper()
	wantAnswer(t, what+": stays right", impl.GwRight(got.Gateway), true)
	kept := got.Gateway
	kept.Bib, kept.Pieces, kept.Bucket = g.Bib, g.Pieces, g.Bucket
	wantGate(t, what+": all else", kept, g)
	for _, s := range got.Sends {
		wantAnswer(t, what+": no more than Mtu bytes", int64(len(s.Text)) <= g.Mtu, true)
		dst := ""
		switch s.Text[0] / 16 {
		case 4:
			out := impl.V4Read(s.Text)
			dst = out.Packet.Dst
			wantText(t, what+": a packet of IPv4 and no more", impl.V4Bytes(out.Packet), s.Text)
		case 6:
			out := impl.V6Read(s.Text)
			dst = out.Packet.Dst
			wantText(t, what+": a packet of IPv6 and no more", impl.V6Bytes(out.Packet), s.Text)
		}
		wantNumber(t, what+": the hop of the longest prefix", s.Hop, hopFor(g, dst))
		wantAnswer(t, what+": a hop of its routes", slices.ContainsFunc(g.Routes, func(r impl.Route) bool { return r.Hop == s.Hop }), true)
	}
}

// takes holds an answer against the reckoned one, against the code and the hops of what is sent, and asks for promise 21.
func takes(t *testing.T, what string, g impl.Gateway, inside bool, text string, code int64, hops ...int64) impl.GwOut {
	t.Helper()
	what = fmt.Sprintf("%s, from %s", what, sideText(inside))
	before := gateClone(g)
	got := impl.GwIn(g, inside, text)
	wantGate(t, what+": what was handed in", g, before)
	wantGwOut(t, what, got, gateTold(g, inside, text))
	wantNumber(t, what+": the code", got.Code, code)
	wantSound(t, what, g, got)
	if !slices.Equal(hopsOf(got), hops) {
		t.Errorf("%s: sent to %v, want %v", what, hopsOf(got), hops)
	}
	return got
}

// wantKept asks which of the three things that may change have changed.
func wantKept(t *testing.T, what string, g impl.Gateway, got impl.GwOut, bib bool, pieces bool, bucket bool) {
	t.Helper()
	wantAnswer(t, what+": the bib stays", bibText(got.Gateway.Bib) == bibText(g.Bib), bib)
	wantAnswer(t, what+": the pieces stay", partsText(got.Gateway.Pieces) == partsText(g.Pieces), pieces)
	wantAnswer(t, what+": the bucket stays", got.Gateway.Bucket == g.Bucket, bucket)
}

func hopsOf(out impl.GwOut) []int64 {
	var hops []int64
	for _, s := range out.Sends {
		hops = append(hops, s.Hop)
	}
	return hops
}
