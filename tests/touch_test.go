package tests

import (
	"fmt"
	"slices"
	"strings"
	"testing"

	"loop.example/g00314/impl"
)

// touchIn and touchOut are packets of UDP from inside and from outside.
func touchIn(host string, port int64, peer string, peerPort int64) impl.Touch {
	return impl.Touch{Proto: impl.Udp, Inside: true, Addr: host, Port: port, Peer: peer, PeerPort: peerPort}
}

func touchOut(lent string, port int64, peer string, peerPort int64) impl.Touch {
	return impl.Touch{Proto: impl.Udp, Addr: lent, Port: port, Peer: peer, PeerPort: peerPort}
}

func touchWith(t impl.Touch, change func(t *impl.Touch)) impl.Touch {
	change(&t)
	return t
}

// withProto is the packet as one of another proto, with those flags.
func withProto(t impl.Touch, proto int64, flags int64) impl.Touch {
	return touchWith(t, func(t *impl.Touch) { t.Proto, t.Flags = proto, flags })
}

// filtered is the pool of home with another Filter.
func filtered(filter int64) impl.Pool {
	return poolWith(homePool(), func(p *impl.Pool) { p.Filter = filter })
}

func touchIsRight(t impl.Touch) bool {
	four, six := len(t.Addr) == 4, len(t.Addr) == 16
	switch {
	case !slices.Contains(bibProtos, t.Proto), !four && !six, six && !t.Inside:
		return false
	case !among(t.Port, 0, 65535), !among(t.PeerPort, 0, 65535), len(t.Peer) != 4, !among(t.Flags, 0, 255):
		return false
	}
	return true
}

// stateBegun and stateAfter are by the tables of the states of TCP; others are open.
func stateBegun(t impl.Touch) int64 {
	if t.Proto != impl.Tcp {
		return 3
	}
	return newState(t.Inside, t.Flags)
}

func stateAfter(t impl.Touch, state int64) int64 {
	if t.Proto != impl.Tcp {
		return 3
	}
	return nextState(state, t.Inside, t.Flags)
}

func lifeOf(l impl.Lives, proto int64, state int64) int64 {
	switch proto {
	case impl.Udp:
		return l.Udp
	case impl.Icmp:
		return l.Echo
	}
	return []int64{0, l.Opening, l.Opening, l.Open, l.Open, l.Open, l.Closing, l.Closing}[state]
}

// bindOutside tells the bind at an end of the pool.
func bindOutside(b impl.Bib, end theEnd) (impl.Bind, bool) {
	for _, bind := range b.Binds {
		if endOutside(bind) == end {
			return bind, true
		}
	}
	return impl.Bind{}, false
}

// touchedBib goes by the document's words, fault by fault in their order.
func touchedBib(p impl.Pool, b impl.Bib, t impl.Touch, now int64) impl.BibOut {
	if !bibIsRight(p, b) || !among(now, 0, 1000000000) || !touchIsRight(t) {
		return impl.BibOut{Code: impl.ErrForm}
	}
	lent := impl.BibOut{}
	if t.Inside {
		lent = lentFor(p, b, t.Proto, t.Addr, t.Port)
	} else if bind, there := bindOutside(b, theEnd{t.Proto, t.Addr, t.Port}); there {
		lent.Bind = bind
	} else {
		return impl.BibOut{Code: impl.ErrNone}
	}
	next, peerMet := bibClone(b), false
	for i, s := range next.Sessions {
		mine := lent.Code == impl.OK && hostEndOf(s) == endInside(lent.Bind)
		peerMet = peerMet || mine && s.Peer == t.Peer
		if mine && s.Peer == t.Peer && s.PeerPort == t.PeerPort {
			s.State = stateAfter(t, s.State)
			s.Until = now + lifeOf(p.Lives, t.Proto, s.State)
			next.Sessions[i] = s
			return impl.BibOut{Bib: next, Bind: lent.Bind}
		}
	}
	state := stateBegun(t)
	switch {
	case !t.Inside && (p.Filter == 2 || p.Filter == 1 && !peerMet), state == 0:
		return impl.BibOut{Code: impl.ErrNone}
	case int64(len(b.Sessions)) == p.Most:
		return impl.BibOut{Code: impl.ErrFull}
	case lent.Code != impl.OK:
		return impl.BibOut{Code: lent.Code}
	}
	if !slices.Contains(b.Binds, lent.Bind) {
		next.Binds = append(next.Binds, lent.Bind)
	}
	next.Sessions = append(next.Sessions, impl.Session{Proto: t.Proto, In: lent.Bind.In, InPort: lent.Bind.InPort, Peer: t.Peer, PeerPort: t.PeerPort,
		State: state, Until: now + lifeOf(p.Lives, t.Proto, state)})
	return impl.BibOut{Bib: next, Bind: lent.Bind}
}

// bibTicked is what is left of a bib at a time.
func bibTicked(p impl.Pool, b impl.Bib, now int64) impl.Bib {
	if !bibIsRight(p, b) || !among(now, 0, 1000000000) {
		return impl.Bib{}
	}
	left := bibClone(b)
	left.Sessions = slices.DeleteFunc(left.Sessions, func(s impl.Session) bool { return now >= s.Until })
	used := map[theEnd]int{}
	for _, s := range left.Sessions {
		used[hostEndOf(s)]++
	}
	left.Binds = slices.DeleteFunc(left.Binds, func(b impl.Bind) bool { return used[endInside(b)] == 0 })
	return left
}

// wantTouched holds an answer against the one that was written by hand, and against the reckoned one.
func wantTouched(t *testing.T, what string, p impl.Pool, b impl.Bib, touch impl.Touch, now int64, want impl.BibOut) {
	t.Helper()
	wantBibOut(t, what, impl.BibTouch(p, b, touch, now), want)
	wantBibOut(t, what+" (as reckoned)", touchedBib(p, b, touch, now), want)
}

// wantNotTouched asks for a code alone: nothing is told beside it.
func wantNotTouched(t *testing.T, what string, p impl.Pool, b impl.Bib, touch impl.Touch, now int64, code int64) {
	t.Helper()
	wantTouched(t, what, p, b, touch, now, impl.BibOut{Code: code})
}

// wantGoesOn asks that the session of that number goes on, and nothing else changes.
func wantGoesOn(t *testing.T, what string, p impl.Pool, b impl.Bib, touch impl.Touch, now int64, session int, bind int, state int64, until int64) {
	t.Helper()
	want := impl.BibOut{Bib: bibClone(b), Bind: b.Binds[bind]}
	want.Bib.Sessions[session].State, want.Bib.Sessions[session].Until = state, until
	wantTouched(t, what, p, b, touch, now, want)
}

// wantBegins asks for a new session at the end, of that bind, which is new itself if the bib has it not.
func wantBegins(t *testing.T, what string, p impl.Pool, b impl.Bib, touch impl.Touch, now int64, bind impl.Bind, state int64, until int64) {
	t.Helper()
	want := impl.BibOut{Bib: bibClone(b), Bind: bind}
	if !slices.Contains(b.Binds, bind) {
		want.Bib.Binds = append(want.Bib.Binds, bind)
	}
	s := openSession(bind, touch.Peer, touch.PeerPort, until)
	s.State = state
	want.Bib.Sessions = append(want.Bib.Sessions, s)
	wantTouched(t, what, p, b, touch, now, want)
}

func TestFirstPacketFromInside(t *testing.T) {
	p := homePool()
	for _, c := range []struct {
		proto, flags, state, until int64
	}{{impl.Udp, 0, 3, 111}, {impl.Udp, 255, 3, 111}, {impl.Icmp, 0, 3, 122}, {impl.Icmp, 4, 3, 122}, {impl.Tcp, syn, 1, 133}, {impl.Tcp, syn | fin, 1, 133}} {
		touch := withProto(touchIn(hostA, 1007, peerA, 53), c.proto, c.flags)
		bind := impl.Bind{Proto: c.proto, In: hostA, InPort: 1007, Out: lentLast, OutPort: 1007}
		wantBegins(t, fmt.Sprintf("proto %d, flags %d", c.proto, c.flags), p, impl.Bib{}, touch, 100, bind, c.state, c.until)
	}
	six := impl.Bind{Proto: impl.Udp, In: hostSix, InPort: 7, Out: lentTwo, OutPort: 1001}
	// The sum of 2001:db8::5 is 11710, 1 modulo 3.
	wantBegins(t, "a host of six", p, impl.Bib{}, touchIn(hostSix, 7, peerA, 53), 0, six, 3, 11)
}

func TestPacketsFromInside(t *testing.T) {
	p, b := homePool(), homeBib()
	wantGoesOn(t, "the first session", p, b, touchIn(hostA, 1002, peerA, 53), 100, 0, 0, 3, 111)
	wantGoesOn(t, "one in the midst", p, b, touchIn(hostB, 1002, peerA, 53), 100, 2, 2, 3, 111)
	wantGoesOn(t, "another peer's", p, b, touchIn(hostA, 1002, peerB, 53), 100, 5, 0, 3, 111)
	wantGoesOn(t, "another port of the peer", p, b, touchIn(hostA, 1002, peerA, 54), 100, 6, 0, 3, 111)
	wantGoesOn(t, "of ICMP and six", p, b, withProto(touchIn(hostSix, 7, peerB, 0), impl.Icmp, 0), 100, 3, 3, 3, 122)
	wantGoesOn(t, "of TCP", p, b, withProto(touchIn(hostA, 1002, peerA, 80), impl.Tcp, syn), 100, 1, 1, 1, 133)
	wantGoesOn(t, "of TCP, reset", p, b, withProto(touchIn(hostA, 1002, peerA, 80), impl.Tcp, rst), 100, 1, 1, 7, 155)
	wantGoesOn(t, "behind its time", p, b, touchIn(hostA, 1002, peerA, 53), 501, 0, 0, 3, 512)
	wantGoesOn(t, "to a time that is sooner", p, b, touchIn(hostA, 1002, peerA, 53), 0, 0, 0, 3, 11)

	wantBegins(t, "a third peer", p, b, touchIn(hostA, 1002, peerC, 53), 100, b.Binds[0], 3, 111)
	wantBegins(t, "a third port of the peer", p, b, touchIn(hostA, 1002, peerA, 55), 100, b.Binds[0], 3, 111)
	wantBegins(t, "of TCP, another port of the peer", p, b, withProto(touchIn(hostA, 1002, peerA, 53), impl.Tcp, syn), 100, b.Binds[1], 1, 133)
	wantBegins(t, "of ICMP, another port of the peer", p, b, withProto(touchIn(hostSix, 7, peerB, 1), impl.Icmp, 0), 100, b.Binds[3], 3, 122)
	wantBegins(t, "another port", p, b, touchIn(hostA, 1004, peerA, 53), 100,
		impl.Bind{Proto: impl.Udp, In: hostA, InPort: 1004, Out: lentOne, OutPort: 1000}, 3, 111)
	wantBegins(t, "another proto", p, b, withProto(touchIn(hostA, 1002, peerA, 53), impl.Icmp, 0), 100,
		impl.Bind{Proto: impl.Icmp, In: hostA, InPort: 1002, Out: lentOne, OutPort: 1002}, 3, 122)
	wantBegins(t, "another host", p, b, touchIn(hostC, 1002, peerA, 53), 100,
		impl.Bind{Proto: impl.Udp, In: hostC, InPort: 1002, Out: lentTwo, OutPort: 1000}, 3, 111)
	for filter := range int64(3) {
		wantBegins(t, "a filter holds nobody inside", filtered(filter), b, touchIn(hostA, 1002, peerC, 53), 100, b.Binds[0], 3, 111)
	}
}

func TestPacketsFromOutside(t *testing.T) {
	b := homeBib()
	for filter := range int64(3) {
		p := filtered(filter)
		what := fmt.Sprintf("Filter %d: ", filter)
		wantGoesOn(t, what+"the first session", p, b, touchOut(lentOne, 1002, peerA, 53), 100, 0, 0, 3, 111)
		wantGoesOn(t, what+"of the other host", p, b, touchOut(lentOne, 1004, peerA, 53), 100, 2, 2, 3, 111)
		wantGoesOn(t, what+"of like ports", p, b, touchOut(lentTwo, 1002, peerB, 53), 100, 4, 4, 3, 111)
		wantGoesOn(t, what+"the last session", p, b, touchOut(lentOne, 1002, peerA, 54), 100, 6, 0, 3, 111)
		wantGoesOn(t, what+"of ICMP", p, b, withProto(touchOut(lentTwo, 1001, peerB, 0), impl.Icmp, 0), 100, 3, 3, 3, 122)
		wantGoesOn(t, what+"of TCP, answered", p, b, withProto(touchOut(lentOne, 1002, peerA, 80), impl.Tcp, syn|ack), 100, 1, 1, 3, 144)
		wantGoesOn(t, what+"of TCP, not answered", p, b, withProto(touchOut(lentOne, 1002, peerA, 80), impl.Tcp, ack), 100, 1, 1, 1, 133)

		for gap, touch := range map[string]impl.Touch{
			"another port":    touchOut(lentOne, 1003, peerA, 53),
			"another address": touchOut(lentLast, 1002, peerA, 53),
			"another proto":   withProto(touchOut(lentOne, 1002, peerA, 53), impl.Icmp, 0),
			"TCP":             withProto(touchOut(lentOne, 1004, peerA, 53), impl.Tcp, syn),
			"no pool's":       touchOut(addressOf("198.51.100.1"), 1002, peerA, 53),
			"an end inside":   touchOut(hostA, 1002, peerA, 53),
			"out of range":    touchOut(lentOne, 999, peerA, 53),
			"port 0":          touchOut(lentOne, 0, peerA, 53),
		} {
			wantNotTouched(t, what+"no bind: "+gap, p, b, touch, 100, impl.ErrNone)
			wantNotTouched(t, what+"no binds: "+gap, p, impl.Bib{}, touch, 100, impl.ErrNone)
		}
	}
}

// A session that there is not, from outside: with a peer that the bind has met, and with others, by each Filter.
func TestFilters(t *testing.T) {
	b := homeBib()
	for _, c := range []struct {
		what  string
		touch impl.Touch
		bind  int
		met   bool
		state int64
		life  int64
	}{
		{"another port of a peer", touchOut(lentOne, 1002, peerA, 55), 0, true, 3, 11},
		{"another port of the second peer", touchOut(lentOne, 1002, peerB, 54), 0, true, 3, 11},
		{"port 0 of a peer", touchOut(lentOne, 1002, peerA, 0), 0, true, 3, 11},
		{"nobody's peer", touchOut(lentOne, 1002, peerC, 53), 0, false, 3, 11},
		{"another host's peer", touchOut(lentOne, 1004, peerB, 53), 2, false, 3, 11},
		{"a peer of the host's other bind", touchOut(lentTwo, 1002, peerA, 53), 4, false, 3, 11},
		{"a peer, of six", touchOut(lentTwo, 1002, peerB, 54), 4, true, 3, 11},
		{"a peer of UDP alone", withProto(touchOut(lentOne, 1002, peerB, 80), impl.Tcp, syn), 1, false, 2, 33},
		{"a peer of TCP", withProto(touchOut(lentOne, 1002, peerA, 81), impl.Tcp, syn), 1, true, 2, 33},
		{"a peer of ICMP", withProto(touchOut(lentTwo, 1001, peerB, 1), impl.Icmp, 0), 3, true, 3, 22},
		{"no peer of ICMP", withProto(touchOut(lentTwo, 1001, peerA, 0), impl.Icmp, 0), 3, false, 3, 22},
	} {
		wantBegins(t, c.what+", Filter 0", filtered(0), b, c.touch, 100, b.Binds[c.bind], c.state, 100+c.life)
		if c.met {
			wantBegins(t, c.what+", Filter 1", filtered(1), b, c.touch, 100, b.Binds[c.bind], c.state, 100+c.life)
		} else {
			wantNotTouched(t, c.what+", Filter 1", filtered(1), b, c.touch, 100, impl.ErrNone)
		}
		wantNotTouched(t, c.what+", Filter 2", filtered(2), b, c.touch, 100, impl.ErrNone)
	}
}

// Of all flags, those that begin something make a session of TCP, from each side; the others make none.
func TestFlagsThatBegin(t *testing.T) {
	p, b := filtered(0), homeBib()
	for flags := range int64(256) {
		inside, outside := withProto(touchIn(hostA, 1002, peerC, 80), impl.Tcp, flags), withProto(touchOut(lentOne, 1002, peerC, 80), impl.Tcp, flags)
		fresh := withProto(touchIn(hostC, 1005, peerC, 80), impl.Tcp, flags)
		what := fmt.Sprintf("flags %d", flags)
		if flags&(syn|rst|ack) == syn {
			wantBegins(t, what+" from inside", p, b, inside, 100, b.Binds[1], 1, 133)
			wantBegins(t, what+" from outside", p, b, outside, 100, b.Binds[1], 2, 133)
			wantBegins(t, what+" of a new host", p, b, fresh, 100, impl.Bind{Proto: impl.Tcp, In: hostC, InPort: 1005, Out: lentTwo, OutPort: 1005}, 1, 133)
			continue
		}
		wantNotTouched(t, what+" from inside", p, b, inside, 100, impl.ErrNone)
		wantNotTouched(t, what+" from outside", p, b, outside, 100, impl.ErrNone)
		wantNotTouched(t, what+" of a new host", p, b, fresh, 100, impl.ErrNone)
	}
}

// Each state of TCP, each side and each byte of flags: the state that comes of it, and its life.
func TestStatesGoOn(t *testing.T) {
	lives := []int64{0, 33, 33, 44, 44, 44, 55, 55}
	p := homePool()
	for state := int64(1); state <= 7; state++ {
		b := bibWith(homeBib(), func(b *impl.Bib) { b.Sessions[1].State = state })
		for flags := range int64(256) {
			for _, side := range bothSides {
				touch := withProto(touchOut(lentOne, 1002, peerA, 80), impl.Tcp, flags)
				if side {
					touch = withProto(touchIn(hostA, 1002, peerA, 80), impl.Tcp, flags)
				}
				next := nextState(state, side, flags)
				wantGoesOn(t, fmt.Sprintf("state %d, flags %d, from %s", state, flags, sideText(side)), p, b, touch, 700, 1, 1, next, 700+lives[next])
			}
		}
	}
}

// With as many sessions as Most those that there are go on, and no new one is made.
func TestTouchesAtMost(t *testing.T) {
	b := homeBib()
	for most := int64(7); most <= 9; most++ {
		p := poolWith(filtered(0), func(p *impl.Pool) { p.Most = most })
		what := fmt.Sprintf("Most %d: ", most)
		wantGoesOn(t, what+"from inside", p, b, touchIn(hostA, 1002, peerA, 53), 100, 0, 0, 3, 111)
		wantGoesOn(t, what+"from outside", p, b, touchOut(lentOne, 1002, peerA, 53), 100, 0, 0, 3, 111)
		fresh := impl.Bind{Proto: impl.Udp, In: hostC, InPort: 1005, Out: lentTwo, OutPort: 1005}
		if most > 7 {
			wantBegins(t, what+"of a bind", p, b, touchIn(hostA, 1002, peerC, 53), 100, b.Binds[0], 3, 111)
			wantBegins(t, what+"of a new bind", p, b, touchIn(hostC, 1005, peerC, 53), 100, fresh, 3, 111)
			wantBegins(t, what+"new from outside", p, b, touchOut(lentOne, 1002, peerC, 53), 100, b.Binds[0], 3, 111)
			continue
		}
		wantNotTouched(t, what+"of a bind", p, b, touchIn(hostA, 1002, peerC, 53), 100, impl.ErrFull)
		wantNotTouched(t, what+"of a new bind", p, b, touchIn(hostC, 1005, peerC, 53), 100, impl.ErrFull)
		wantNotTouched(t, what+"new from outside", p, b, touchOut(lentOne, 1002, peerC, 53), 100, impl.ErrFull)
		wantNotTouched(t, what+"no bind outside", p, b, touchOut(lentOne, 1003, peerC, 53), 100, impl.ErrNone)
		wantNotTouched(t, what+"nothing begun inside", p, b, withProto(touchIn(hostA, 1002, peerC, 53), impl.Tcp, ack), 100, impl.ErrNone)
		wantNotTouched(t, what+"nothing begun outside", p, b, withProto(touchOut(lentOne, 1002, peerC, 53), impl.Tcp, ack), 100, impl.ErrNone)
		for filter := int64(1); filter <= 2; filter++ {
			q := poolWith(p, func(p *impl.Pool) { p.Filter = filter })
			wantNotTouched(t, what+"filtered", q, b, touchOut(lentOne, 1002, peerC, 53), 100, impl.ErrNone)
		}
		q := poolWith(p, func(p *impl.Pool) { p.Filter = 1 })
		wantNotTouched(t, what+"of a peer", q, b, touchOut(lentOne, 1002, peerA, 99), 100, impl.ErrFull)
	}
}

// With no port left binds that there are go on, and have new sessions; a new one is not made.
func TestTouchesWithoutPorts(t *testing.T) {
	p := impl.Pool{Addrs: []string{lentOne}, Low: 7, High: 8, Most: 4, Lives: someLives()}
	b := bibOf(impl.Bind{Proto: impl.Tcp, In: hostA, InPort: 1, Out: lentOne, OutPort: 7}, impl.Bind{Proto: impl.Tcp, In: hostB, InPort: 1, Out: lentOne, OutPort: 8})
	fresh := withProto(touchIn(hostC, 7, peerA, 53), impl.Tcp, syn)
	wantNotTouched(t, "a new bind", p, b, fresh, 100, impl.ErrFull)
	wantNotTouched(t, "nothing begun", p, b, withProto(fresh, impl.Tcp, ack), 100, impl.ErrNone)
	wantNotTouched(t, "a new bind of a host that has one", p, b, withProto(touchIn(hostA, 2, peerA, 53), impl.Tcp, syn), 100, impl.ErrFull)
	wantGoesOn(t, "one that there is", p, b, withProto(touchIn(hostA, 1, peerA, 53), impl.Tcp, fin), 100, 0, 0, 4, 144)
	wantBegins(t, "a new session", p, b, withProto(touchIn(hostA, 1, peerA, 54), impl.Tcp, syn), 100, b.Binds[0], 1, 133)
	wantBegins(t, "a new one from outside", p, b, withProto(touchOut(lentOne, 8, peerC, 54), impl.Tcp, syn), 100, b.Binds[1], 2, 133)
	wantBegins(t, "of another proto", p, b, withProto(fresh, impl.Udp, 0), 100, impl.Bind{Proto: impl.Udp, In: hostC, InPort: 7, Out: lentOne, OutPort: 7}, 3, 111)
}

// Times at their edges, beside lives at theirs: Until is both together.
func TestUntil(t *testing.T) {
	for _, life := range []int64{1, 10000} {
		for _, now := range []int64{0, 1, 499, 500, 501, 999999999, 1000000000} {
			for i, c := range []struct{ proto, flags, state int64 }{{17, 0, 3}, {1, 0, 3}, {6, 2, 1}} {
				n := [5]int64{5000, 5000, 5000, 5000, 5000}
				n[i] = life
				p := poolWith(homePool(), func(p *impl.Pool) { p.Lives = livesOf(n) })
				bind := impl.Bind{Proto: c.proto, In: hostA, InPort: 1005, Out: lentLast, OutPort: 1005}
				what := fmt.Sprintf("proto %d at %d, life %d", c.proto, now, life)
				touch := withProto(touchIn(hostA, 1005, peerA, 53), c.proto, c.flags)
				wantBegins(t, what, p, impl.Bib{}, touch, now, bind, c.state, now+life)
				begun := impl.BibTouch(p, impl.Bib{}, touch, 77).Bib
				wantGoesOn(t, what+", again", p, begun, touch, now, 0, 0, c.state, now+life)
			}
		}
	}
}

// wantTouchAs asks a packet of right bibs, one that has its session and others.
func wantTouchAs(t *testing.T, what string, touch impl.Touch, now int64, right bool) {
	t.Helper()
	full := poolWith(homePool(), func(p *impl.Pool) { p.Most = 7 })
	for _, p := range []impl.Pool{homePool(), filtered(0), filtered(2), full} {
		for _, b := range []impl.Bib{homeBib(), {}} {
			got := impl.BibTouch(p, b, touch, now)
			wantAnswer(t, what+": taken", got.Code != impl.ErrForm, right)
			wantBibOut(t, what, got, touchedBib(p, b, touch, now))
		}
	}
}

func TestTouchesAtLimits(t *testing.T) {
	for _, touch := range []impl.Touch{touchIn(hostA, 1002, peerA, 53), touchIn(hostC, 1005, peerC, 53), touchIn(hostSix, 40000, peerB, 53),
		touchOut(lentOne, 1002, peerA, 53), touchOut(lentOne, 1002, peerC, 53), touchOut(lentOne, 1003, peerA, 53),
		withProto(touchIn(hostA, 1002, peerA, 80), impl.Tcp, ack), withProto(touchOut(lentOne, 1002, peerC, 80), impl.Tcp, ack)} {
		for _, now := range []int64{0, 1, 999999999, 1000000000} {
			wantTouchAs(t, fmt.Sprintf("now %d", now), touch, now, true)
		}
		for _, now := range noTimes {
			wantTouchAs(t, fmt.Sprintf("now %d", now), touch, now, false)
		}
		for _, field := range []struct {
			what  string
			set   func(t *impl.Touch, n int64)
			right []int64
			wrong []int64
		}{
			{"Proto", func(t *impl.Touch, n int64) { t.Proto = n }, bibProtos, strangeProtos()},
			{"Port", func(t *impl.Touch, n int64) { t.Port = n }, someWords, noWords},
			{"PeerPort", func(t *impl.Touch, n int64) { t.PeerPort = n }, someWords, noWords},
			{"Flags", func(t *impl.Touch, n int64) { t.Flags = n }, []int64{0, 1, 2, 127, 128, 254, 255}, noBytes},
		} {
			for _, n := range field.right {
				wantTouchAs(t, fmt.Sprintf("%s of %d", field.what, n), touchWith(touch, func(t *impl.Touch) { field.set(t, n) }), 9, true)
			}
			for _, n := range field.wrong {
				wantTouchAs(t, fmt.Sprintf("%s of %d", field.what, n), touchWith(touch, func(t *impl.Touch) { field.set(t, n) }), 9, false)
			}
		}
		for _, a := range append(noAddresses(), hostC, hostSix, hostSix+hostA) {
			what := fmt.Sprintf("of %d bytes, from %s", len(a), sideText(touch.Inside))
			addr, peer := touchWith(touch, func(t *impl.Touch) { t.Addr = a }), touchWith(touch, func(t *impl.Touch) { t.Peer = a })
			wantTouchAs(t, "Addr "+what, addr, 9, len(a) == 4 || len(a) == 16 && touch.Inside)
			wantTouchAs(t, "Peer "+what, peer, 9, len(a) == 4)
		}
	}
	wantTouchAs(t, "the zero Touch", impl.Touch{}, 9, false)
}

func TestTicksByHand(t *testing.T) {
	p, b := homePool(), homeBib()
	all := func(binds []int, sessions ...int) impl.Bib {
		var left impl.Bib
		for _, at := range binds {
			left.Binds = append(left.Binds, b.Binds[at])
		}
		for _, at := range sessions {
			left.Sessions = append(left.Sessions, b.Sessions[at])
		}
		return left
	}
	for _, c := range []struct {
		now  int64
		left impl.Bib
	}{
		{0, b},
		{499, b},
		{500, all([]int{0, 1, 2, 3, 4}, 1, 2, 3, 4, 5, 6)},
		{501, all([]int{0, 1, 2, 3, 4}, 1, 2, 3, 4, 5, 6)},
		{509, all([]int{0, 1, 2, 3, 4}, 1, 2, 3, 4, 5, 6)},
		{510, all([]int{0, 2, 3, 4}, 2, 3, 4, 5, 6)},
		{520, all([]int{0, 3, 4}, 3, 4, 5, 6)},
		{530, all([]int{0, 4}, 4, 5, 6)},
		{540, all([]int{0}, 5, 6)},
		{550, all([]int{0}, 6)},
		{559, all([]int{0}, 6)},
		{560, impl.Bib{}},
		{1000000000, impl.Bib{}},
	} {
		wantBib(t, fmt.Sprintf("at %d", c.now), impl.BibTick(p, b, c.now), c.left)
		wantBib(t, fmt.Sprintf("at %d (as reckoned)", c.now), bibTicked(p, b, c.now), c.left)
	}
	for _, now := range noTimes {
		wantBib(t, fmt.Sprintf("at %d", now), impl.BibTick(p, b, now), impl.Bib{})
	}
	for _, until := range []int64{0, 1, 1000000000, 1000000001, 2000000000} {
		for _, now := range []int64{0, 1, 2, 999999999, 1000000000} {
			one := bibWith(bibOf(b.Binds[0]), func(b *impl.Bib) { b.Sessions[0].Until = until })
			want := one
			if until <= now {
				want = impl.Bib{}
			}
			wantBib(t, fmt.Sprintf("until %d, at %d", until, now), impl.BibTick(p, one, now), want)
		}
	}
}

// Promise 13, and that two steps come to what one comes to.
func TestTicksInSteps(t *testing.T) {
	p, b := homePool(), homeBib()
	for first := int64(495); first <= 565; first++ {
		once := impl.BibTick(p, b, first)
		for _, s := range b.Sessions {
			wantAnswer(t, fmt.Sprintf("a session until %d is there at %d", s.Until, first), slices.Contains(once.Sessions, s), s.Until > first)
		}
		for _, bind := range b.Binds {
			has := slices.ContainsFunc(once.Sessions, func(s impl.Session) bool { return hostEndOf(s) == endInside(bind) })
			wantAnswer(t, fmt.Sprintf("%s is there at %d", bindText(bind), first), slices.Contains(once.Binds, bind), has)
		}
		wantAnswer(t, "right at a later time", impl.BibRight(p, once), true)
		for second := int64(495); second <= 565; second++ {
			what := fmt.Sprintf("at %d, then at %d", first, second)
			wantBib(t, what, impl.BibTick(p, once, second), impl.BibTick(p, b, max(first, second)))
		}
	}
}

// Promise 12: of a pool of few ports each end inside has one of its own, till all are lent.
func TestEachHasItsPort(t *testing.T) {
	for _, count := range []int64{1, 2, 5, 8, 59, 60} {
		p := impl.Pool{Addrs: []string{lentOne}, Low: 2001, High: 2000 + count, Most: 60, Filter: 1, Lives: someLives()}
		for _, wish := range []int64{0, 1, 2001, 2002, 2000 + count, 65535} {
			var b impl.Bib
			lent := map[int64]int{}
			for n := range count {
				host := addressOf(fmt.Sprintf("10.0.%d.7", n))
				asked := impl.PortFor(p, b, impl.Udp, host, wish)
				got := impl.BibTouch(p, b, touchIn(host, wish, peerA, 53), n)
				wantNumber(t, "one is free", got.Code, impl.OK)
				wantBind(t, "what PortFor tells is made", got.Bind, asked.Bind)
				wantAnswer(t, "within the pool", among(got.Bind.OutPort, 2001, 2000+count), true)
				lent[got.Bind.OutPort]++
				b = got.Bib
			}
			wantNumber(t, "ports that are lent", int64(len(lent)), count)
			wantNumber(t, "none is free", impl.PortFor(p, b, impl.Udp, hostC, wish).Code, impl.ErrFull)
			wantNumber(t, "none is free for a packet", impl.BibTouch(p, b, touchIn(hostC, wish, peerA, 53), 9).Code, impl.ErrFull)
			late := impl.BibTick(p, b, 11)
			wantNumber(t, "the first is lent again", impl.PortFor(p, late, impl.Udp, hostC, wish).Bind.OutPort, b.Binds[0].OutPort)
		}
	}
}

// textsOfBib are all texts of a bib.
func textsOfBib(b impl.Bib) []string {
	return append(textsOfBinds(b.Binds...), textsOfSessions(b.Sessions)...)
}

func textsOfBinds(l ...impl.Bind) []string {
	var texts []string
	for _, bind := range l {
		texts = append(texts, bind.In, bind.Out)
	}
	return texts
}

func textsOfSessions(l []impl.Session) []string {
	var texts []string
	for _, s := range l {
		texts = append(texts, s.In, s.Peer)
	}
	return texts
}

// roomyBib has room behind its lists, which shows whether something is laid there.
func roomyBib(b impl.Bib) impl.Bib {
	return impl.Bib{Binds: append(make([]impl.Bind, 0, 30), b.Binds...), Sessions: append(make([]impl.Session, 0, 30), b.Sessions...)}
}

func wholeBib(b impl.Bib) impl.Bib {
	return impl.Bib{Binds: b.Binds[:cap(b.Binds)], Sessions: b.Sessions[:cap(b.Sessions)]}
}

func TestBibsAreNewMemory(t *testing.T) {
	p := filtered(0)
	for _, c := range []struct {
		what  string
		touch impl.Touch
	}{
		{"goes on from inside", touchIn(hostA, 1002, peerA, 53)},
		{"goes on from outside", touchOut(lentTwo, 1002, peerB, 53)},
		{"a new session from inside", touchIn(hostB, 1002, peerC, 53)},
		{"a new session from outside", touchOut(lentOne, 1004, peerC, 53)},
		{"a new bind", touchIn(hostC, 1005, peerC, 53)},
		{"refused", touchOut(lentOne, 1003, peerC, 53)},
		{"wrong", impl.Touch{}},
	} {
		b := roomyBib(homeBib())
		touch := touchWith(c.touch, func(t *impl.Touch) { t.Addr, t.Peer = strings.Clone(t.Addr), strings.Clone(t.Peer) })
		before, addrs := bibClone(wholeBib(b)), slices.Clone(p.Addrs)
		got, ticked := impl.BibTouch(p, b, touch, 60), impl.BibTick(p, b, 520)
		lent := impl.PortFor(p, b, impl.Udp, touch.Addr, 1005)
		of, at := impl.BindOf(b, impl.Udp, b.Binds[2].In, 1002), impl.BindAt(b, impl.Udp, b.Binds[2].Out, 1004)
		wantBib(t, c.what+": what was handed in", wholeBib(b), before)
		wantAnswer(t, c.what+": the pool", slices.Equal(p.Addrs, addrs), true)

		given := append(textsOfBib(b), append(slices.Clone(p.Addrs), touch.Addr, touch.Peer)...)
		wantNewTexts(t, c.what, append(textsOfBib(got.Bib), textsOfBinds(got.Bind)...), given)
		wantNewTexts(t, c.what+", ticked", textsOfBib(ticked), given)
		wantNewTexts(t, c.what+", binds", textsOfBinds(lent.Bind, of, at), given)
		wantNewTexts(t, c.what+", two lists", textsOfBinds(got.Bib.Binds...), textsOfSessions(got.Bib.Sessions))
		wantNewTexts(t, c.what+", two lists ticked", textsOfBinds(ticked.Binds...), textsOfSessions(ticked.Sessions))
		wantNewTexts(t, c.what+", the bind beside", textsOfBinds(got.Bind), textsOfBib(got.Bib))

		spoil(got.Bib.Binds)
		spoil(got.Bib.Sessions)
		wantBib(t, c.what+": what was handed in, the answer spoilt", wholeBib(b), before)
		wantBib(t, c.what+": the other answer", ticked, bibTicked(p, homeBib(), 520))
		spoil(ticked.Binds)
		spoil(ticked.Sessions)
		wantBib(t, c.what+": what was handed in, the ticked one spoilt", wholeBib(b), before)
		again, late := impl.BibTouch(p, b, touch, 60), impl.BibTick(p, b, 520)
		spoil(b.Binds)
		spoil(b.Sessions)
		wantBibOut(t, c.what+": what was handed in spoilt", again, touchedBib(p, homeBib(), touch, 60))
		wantBib(t, c.what+": what was handed in spoilt, ticked", late, bibTicked(p, homeBib(), 520))
	}
}

// touch is a packet by chance, of few ends, and now and then a wrong one.
func (d *dice) touch(p impl.Pool, b impl.Bib) impl.Touch {
	peers := []string{peerA, peerB, peerC}
	t := impl.Touch{Proto: bibProtos[d.upTo(2)], Inside: d.yes(), Peer: peers[d.upTo(2)], PeerPort: d.upTo(2),
		Flags: []int64{syn, syn, syn, syn | ack, ack, fin | ack, rst, syn | fin, 0}[d.upTo(8)]}
	if t.Inside {
		t.Addr, t.Port = []string{hostA, hostB, hostC, hostSix}[d.upTo(3)], 998+d.upTo(6)
	} else {
		t.Addr, t.Port = p.Addrs[d.upTo(int64(len(p.Addrs)-1))], p.Low+d.upTo(p.High-p.Low)
	}
	// Most from outside would meet no bind else.
	if count := int64(len(b.Binds)); !t.Inside && count > 0 && d.upTo(4) > 0 {
		bind := b.Binds[d.upTo(count-1)]
		t.Proto, t.Addr, t.Port = bind.Proto, bind.Out, bind.OutPort
	}
	switch d.upTo(100) {
	case 0:
		t.Proto = otherProtos[d.upTo(int64(len(otherProtos)-1))]
	case 1:
		t.Addr = []string{hostSix, "", hostA[:3], hostA + hostB}[d.upTo(3)]
	case 2:
		t.Flags = noBytes[d.upTo(int64(len(noBytes)-1))]
	case 3:
		t.Port = noWords[d.upTo(int64(len(noWords)-1))]
	case 4:
		t.PeerPort = noWords[d.upTo(int64(len(noWords)-1))]
	case 5:
		t.Peer = hostSix
	}
	return t
}

func (d *dice) pool() impl.Pool {
	low := 998 + d.upTo(3)
	return impl.Pool{Addrs: lentAddrs(int(1 + d.upTo(2))), Low: low, High: low + d.upTo(4), Most: 1 + d.upTo(20), Filter: d.upTo(2),
		Lives: livesOf([5]int64{1 + d.upTo(30), 1 + d.upTo(10), 1 + d.upTo(10), 1 + d.upTo(60), 1 + d.upTo(10)})}
}

// Promise 11 with packets by chance, one behind the other, in times that go on: a right bib stays right and keeps
// its binds, and what is told is as the document's words reckon it.
func TestMadeTouches(t *testing.T) {
	d := dice(10)
	met := map[string]int{}
	for range 60 {
		p, b, now := d.pool(), impl.Bib{}, int64(0)
		for step := range 400 {
			touch := d.touch(p, b)
			what := fmt.Sprintf("step %d, %+v at %d, pool %+v", step, touch, now, p)
			got := impl.BibTouch(p, b, touch, now)
			wantBibOut(t, what, got, touchedBib(p, b, touch, now))
			met[fmt.Sprintf("code %d from %s", got.Code, sideText(touch.Inside))]++
			lent := impl.PortFor(p, b, touch.Proto, touch.Addr, touch.Port)
			wantBibOut(t, what+": PortFor", lent, lentFor(p, b, touch.Proto, touch.Addr, touch.Port))
			if got.Code == impl.OK {
				wantAnswer(t, what+": stays right", impl.BibRight(p, got.Bib), true)
				wantAnswer(t, what+": keeps its binds", len(got.Bib.Binds) <= len(b.Binds)+1 && slices.Equal(got.Bib.Binds[:len(b.Binds)], b.Binds), true)
				wantAnswer(t, what+": has the bind", slices.Contains(got.Bib.Binds, got.Bind), true)
				wantAnswer(t, what+": makes none from outside", touch.Inside || len(got.Bib.Binds) == len(b.Binds), true)
				b = got.Bib
			}
			if d.upTo(5) == 0 {
				now += d.upTo(8)
				left := impl.BibTick(p, b, now)
				wantBib(t, what+": ticked", left, bibTicked(p, b, now))
				wantAnswer(t, what+": ticked, right", impl.BibRight(p, left), true)
				if d.upTo(3) > 0 {
					b = left
				}
			}
		}
	}
	for _, side := range bothSides {
		for _, code := range []int64{impl.OK, impl.ErrForm, impl.ErrNone, impl.ErrFull} {
			if what := fmt.Sprintf("code %d from %s", code, sideText(side)); met[what] < 100 {
				t.Errorf("%s was met %d times: %v", what, met[what], met)
			}
		}
	}
}

// spoilt is a bib with one thing of it, by chance, set to what stands elsewhere in it or near it.
func (d *dice) spoilt(p impl.Pool, b impl.Bib) impl.Bib {
	b = bibClone(b)
	if len(b.Binds) == 0 {
		return b
	}
	bind, s := &b.Binds[d.upTo(int64(len(b.Binds)-1))], &b.Sessions[d.upTo(int64(len(b.Sessions)-1))]
	other, like := b.Binds[d.upTo(int64(len(b.Binds)-1))], b.Sessions[d.upTo(int64(len(b.Sessions)-1))]
	switch d.upTo(13) {
	case 0:
		bind.Proto = other.Proto
	case 1:
		bind.In = other.In
	case 2:
		bind.InPort = other.InPort + d.upTo(1)
	case 3:
		bind.Out = p.Addrs[d.upTo(int64(len(p.Addrs)-1))]
	case 4:
		bind.OutPort = p.Low - 1 + d.upTo(p.High-p.Low+2)
	case 5:
		s.Proto = like.Proto
	case 6:
		s.In = like.In
	case 7:
		s.InPort = like.InPort
	case 8:
		s.Peer = like.Peer
	case 9:
		s.PeerPort = like.PeerPort
	case 10:
		s.State = d.upTo(8)
	case 11:
		s.Until = []int64{-1, 0, 2000000000, 2000000001}[d.upTo(3)]
	case 12:
		gone := *s
		b.Sessions = slices.DeleteFunc(b.Sessions, func(q impl.Session) bool { return q == gone })
	case 13:
		gone := *bind
		b.Binds = slices.DeleteFunc(b.Binds, func(q impl.Bind) bool { return q == gone })
	}
	return b
}

// Bibs by chance with one thing spoilt: those that are right still, and those that are not.
func TestSpoiltBibs(t *testing.T) {
	d := dice(11)
	right, wrong := 0, 0
	for range 150 {
		p := d.pool()
		p.Filter = 0
		var b impl.Bib
		for range 30 {
			if got := impl.BibTouch(p, b, d.touch(p, b), d.upTo(50)); got.Code == impl.OK {
				b = got.Bib
			}
		}
		for range 40 {
			bad := d.spoilt(p, b)
			if bibIsRight(p, bad) {
				right++
			} else {
				wrong++
			}
			wantAnswer(t, bibText(bad), impl.BibRight(p, bad), bibIsRight(p, bad))
			touch := d.touch(p, b)
			wantBibOut(t, bibText(bad), impl.BibTouch(p, bad, touch, 40), touchedBib(p, bad, touch, 40))
			wantBib(t, bibText(bad), impl.BibTick(p, bad, 40), bibTicked(p, bad, 40))
		}
	}
	if right < 500 || wrong < 1500 {
		t.Errorf("%d were right, %d wrong", right, wrong)
	}
}
