package tests

import (
	"fmt"
	"math"
	"slices"
	"strings"
	"testing"

	"loop.example/g00314/impl"
)

// Hosts inside, peers outside, and addresses of pools.
var (
	hostA    = addressOf("10.0.0.1")
	hostB    = addressOf("10.0.0.2")
	hostC    = addressOf("10.0.0.3")
	hostSix  = addressOf("2001:db8::5")
	peerA    = addressOf("192.0.2.9")
	peerB    = addressOf("192.0.2.8")
	peerC    = addressOf("192.0.2.7")
	lentOne  = addressOf("203.0.113.1")
	lentTwo  = addressOf("203.0.113.2")
	lentLast = addressOf("203.0.113.3")
)

// bibProtos are those that binds are of.
var bibProtos = []int64{impl.Tcp, impl.Udp, impl.Icmp}

// lentAddrs are so many addresses for a pool.
func lentAddrs(count int) []string {
	var l []string
	for i := range count {
		l = append(l, addressOf(fmt.Sprintf("203.0.113.%d", i+1)))
	}
	return l
}

func homePool() impl.Pool {
	return impl.Pool{Addrs: lentAddrs(3), Low: 1000, High: 1009, Most: 12, Filter: 1, Lives: someLives()}
}

func poolWith(p impl.Pool, change func(p *impl.Pool)) impl.Pool {
	p.Addrs = slices.Clone(p.Addrs)
	change(&p)
	return p
}

// homeBib has binds of each proto, two of one host, two of one wish, and a host of six bytes twice over;
// its sessions lie among one another.
func homeBib() impl.Bib {
	return impl.Bib{
		Binds: []impl.Bind{
			{Proto: impl.Udp, In: hostA, InPort: 1002, Out: lentOne, OutPort: 1002},
			{Proto: impl.Tcp, In: hostA, InPort: 1002, Out: lentOne, OutPort: 1002},
			{Proto: impl.Udp, In: hostB, InPort: 1002, Out: lentOne, OutPort: 1004},
			{Proto: impl.Icmp, In: hostSix, InPort: 7, Out: lentTwo, OutPort: 1001},
			{Proto: impl.Udp, In: hostSix, InPort: 40000, Out: lentTwo, OutPort: 1002},
		},
		Sessions: []impl.Session{
			{Proto: impl.Udp, In: hostA, InPort: 1002, Peer: peerA, PeerPort: 53, State: impl.Open, Until: 500},
			{Proto: impl.Tcp, In: hostA, InPort: 1002, Peer: peerA, PeerPort: 80, State: impl.Opening, Until: 510},
			{Proto: impl.Udp, In: hostB, InPort: 1002, Peer: peerA, PeerPort: 53, State: impl.Open, Until: 520},
			{Proto: impl.Icmp, In: hostSix, InPort: 7, Peer: peerB, PeerPort: 0, State: impl.Open, Until: 530},
			{Proto: impl.Udp, In: hostSix, InPort: 40000, Peer: peerB, PeerPort: 53, State: impl.Open, Until: 540},
			{Proto: impl.Udp, In: hostA, InPort: 1002, Peer: peerB, PeerPort: 53, State: impl.Open, Until: 550},
			{Proto: impl.Udp, In: hostA, InPort: 1002, Peer: peerA, PeerPort: 54, State: impl.Open, Until: 560},
		},
	}
}

func bibClone(b impl.Bib) impl.Bib {
	return impl.Bib{Binds: slices.Clone(b.Binds), Sessions: slices.Clone(b.Sessions)}
}

func bibWith(b impl.Bib, change func(b *impl.Bib)) impl.Bib {
	b = bibClone(b)
	change(&b)
	return b
}

// openSession is a session of a bind, with a peer of that port.
func openSession(b impl.Bind, peer string, port int64, until int64) impl.Session {
	return impl.Session{Proto: b.Proto, In: b.In, InPort: b.InPort, Peer: peer, PeerPort: port, State: impl.Open, Until: until}
}

// bibOf has those binds, each with one session.
func bibOf(binds ...impl.Bind) impl.Bib {
	b := impl.Bib{Binds: binds}
	for _, bind := range binds {
		b.Sessions = append(b.Sessions, openSession(bind, peerA, 53, 500))
	}
	return b
}

// poolIsRight asks the document's words one by one.
func poolIsRight(p impl.Pool) bool {
	switch {
	case !among(int64(len(p.Addrs)), 1, 8), !among(p.Low, 1, 65535), p.Low > p.High, p.High > 65535:
		return false
	case !among(p.Most, 1, 60), !among(p.Filter, 0, 2):
		return false
	}
	for _, n := range []int64{p.Lives.Udp, p.Lives.Echo, p.Lives.Opening, p.Lives.Open, p.Lives.Closing} {
		if !among(n, 1, 10000) {
			return false
		}
	}
	met := map[string]bool{}
	for _, a := range p.Addrs {
		if len(a) != 4 || met[a] {
			return false
		}
		met[a] = true
	}
	return true
}

// theEnd is an end of a bind, as a key.
type theEnd [3]any

func endInside(b impl.Bind) theEnd    { return theEnd{b.Proto, b.In, b.InPort} }
func endOutside(b impl.Bind) theEnd   { return theEnd{b.Proto, b.Out, b.OutPort} }
func hostEndOf(s impl.Session) theEnd { return theEnd{s.Proto, s.In, s.InPort} }

// bibIsRight counts what may be there once alone, and who has whom.
func bibIsRight(p impl.Pool, b impl.Bib) bool {
	if !poolIsRight(p) || int64(len(b.Sessions)) > p.Most {
		return false
	}
	insides, outsides, used, met, outs := map[theEnd]int{}, map[theEnd]int{}, map[theEnd]int{}, map[[3]any]int{}, map[string]string{}
	for _, s := range b.Sessions {
		used[hostEndOf(s)]++
		met[[3]any{hostEndOf(s), s.Peer, s.PeerPort}]++
		switch {
		case met[[3]any{hostEndOf(s), s.Peer, s.PeerPort}] > 1, len(s.Peer) != 4, !among(s.PeerPort, 0, 65535):
			return false
		case !among(s.State, 1, 7), s.Proto != impl.Tcp && s.State != 3, !among(s.Until, 0, 2000000000):
			return false
		}
	}
	for _, bind := range b.Binds {
		insides[endInside(bind)]++
		outsides[endOutside(bind)]++
		if outs[bind.In] == "" {
			outs[bind.In] = bind.Out
		}
		switch {
		case !slices.Contains(bibProtos, bind.Proto), len(bind.In) != 4 && len(bind.In) != 16, !among(bind.InPort, 0, 65535):
			return false
		case !slices.Contains(p.Addrs, bind.Out), !among(bind.OutPort, p.Low, p.High), outs[bind.In] != bind.Out:
			return false
		case insides[endInside(bind)] > 1, outsides[endOutside(bind)] > 1, used[endInside(bind)] == 0:
			return false
		}
	}
	// Each bind has a session, so all sessions have one, if there are not more ends of them than of binds.
	return len(used) == len(insides)
}

// lentFor lends as the document's words say, marking the ports one by one.
func lentFor(p impl.Pool, b impl.Bib, proto int64, host string, port int64) impl.BibOut {
	switch {
	case len(host) > 20000:
		return impl.BibOut{Code: impl.ErrSize}
	case !bibIsRight(p, b), !slices.Contains(bibProtos, proto), len(host) != 4 && len(host) != 16, !among(port, 0, 65535):
		return impl.BibOut{Code: impl.ErrForm}
	}
	made := impl.Bind{Proto: proto, In: host, InPort: port, Out: p.Addrs[expected(host)%int64(len(p.Addrs))]}
	for _, bind := range slices.Backward(b.Binds) {
		if endInside(bind) == endInside(made) {
			return impl.BibOut{Bind: bind}
		}
		if bind.In == host {
			made.Out = bind.Out
		}
	}
	lent := map[int64]bool{}
	for _, bind := range b.Binds {
		if bind.Proto == proto && bind.Out == made.Out {
			lent[bind.OutPort] = true
		}
	}
	// Each choice of the document, from the last one to the first, takes the place of those behind it.
	for at := p.High; at >= p.Low; at-- {
		if better := at%2 == port%2 || made.OutPort == 0 || made.OutPort%2 != port%2; !lent[at] && better {
			made.OutPort = at
		}
	}
	if among(port, p.Low, p.High) && !lent[port] {
		made.OutPort = port
	}
	if made.OutPort == 0 {
		return impl.BibOut{Code: impl.ErrFull}
	}
	return impl.BibOut{Bind: made}
}

// bibText tells a bib for what is told of a fault.
func bibText(b impl.Bib) string {
	var text strings.Builder
	for _, bind := range b.Binds {
		text.WriteString(" " + bindText(bind))
	}
	for _, s := range b.Sessions {
		fmt.Fprintf(&text, " (%d %.16q %d - %.16q %d: %d until %d)", s.Proto, s.In, s.InPort, s.Peer, s.PeerPort, s.State, s.Until)
	}
	return fmt.Sprintf("%d binds, %d sessions%s", len(b.Binds), len(b.Sessions), text.String())
}

func bindText(b impl.Bind) string {
	return fmt.Sprintf("(%d %.16q %d > %.16q %d)", b.Proto, b.In, b.InPort, b.Out, b.OutPort)
}

func wantBib(t *testing.T, what string, got impl.Bib, want impl.Bib) {
	t.Helper()
	if !slices.Equal(got.Binds, want.Binds) || !slices.Equal(got.Sessions, want.Sessions) {
		t.Errorf("%s: got %s, want %s", what, bibText(got), bibText(want))
	}
}

func wantBind(t *testing.T, what string, got impl.Bind, want impl.Bind) {
	t.Helper()
	if got != want {
		t.Errorf("%s: got %s, want %s", what, bindText(got), bindText(want))
	}
}

func wantBibOut(t *testing.T, what string, got impl.BibOut, want impl.BibOut) {
	t.Helper()
	wantBib(t, what, got.Bib, want.Bib)
	wantBind(t, what, got.Bind, want.Bind)
	wantNumber(t, what+": code", got.Code, want.Code)
}

// wantPort asks for a port, and holds the answer against what was written by hand and against the reckoned one.
func wantPort(t *testing.T, what string, p impl.Pool, b impl.Bib, wish impl.Bind, out string, port int64, code int64) {
	t.Helper()
	want := impl.BibOut{Code: code}
	if code == impl.OK {
		want.Bind = impl.Bind{Proto: wish.Proto, In: wish.In, InPort: wish.InPort, Out: out, OutPort: port}
	}
	wantBibOut(t, what, impl.PortFor(p, b, wish.Proto, wish.In, wish.InPort), want)
	wantBibOut(t, what+" (as reckoned)", lentFor(p, b, wish.Proto, wish.In, wish.InPort), want)
}

// wantBibAs asks a bib of all calls that take one with its pool.
func wantBibAs(t *testing.T, what string, p impl.Pool, b impl.Bib, right bool) {
	t.Helper()
	wantAnswer(t, what+": BibRight", impl.BibRight(p, b), right)
	wantAnswer(t, what+": BibRight (as reckoned)", bibIsRight(p, b), right)
	lent := impl.PortFor(p, b, impl.Udp, hostC, 1006)
	inside := impl.BibTouch(p, b, impl.Touch{Proto: impl.Udp, Inside: true, Addr: hostA, Port: 1002, Peer: peerA, PeerPort: 53}, 9)
	outside := impl.BibTouch(p, b, impl.Touch{Proto: impl.Udp, Addr: lentOne, Port: 1002, Peer: peerA, PeerPort: 53}, 9)
	ticked := impl.BibTick(p, b, 0)
	if right {
		wantAnswer(t, what+": refused", lent.Code == impl.ErrForm || inside.Code == impl.ErrForm || outside.Code == impl.ErrForm, false)
		wantBib(t, what+": ticked", ticked, bibTicked(p, b, 0))
		return
	}
	refused := impl.BibOut{Code: impl.ErrForm}
	wantBibOut(t, what+": PortFor", lent, refused)
	wantBibOut(t, what+": from inside", inside, refused)
	wantBibOut(t, what+": from outside", outside, refused)
	wantBib(t, what+": ticked", ticked, impl.Bib{})
}

// wantPoolAs asks a pool alone, and with a bib that is right of any right one.
func wantPoolAs(t *testing.T, what string, p impl.Pool, right bool) {
	t.Helper()
	wantAnswer(t, what+": PoolRight", impl.PoolRight(p), right)
	wantAnswer(t, what+": PoolRight (as reckoned)", poolIsRight(p), right)
	wantBibAs(t, what, p, impl.Bib{}, right)
}

func TestMostBinds(t *testing.T) {
	wantNumber(t, "MaxBinds", impl.MaxBinds, 60)
}

func TestPoolAddresses(t *testing.T) {
	for count := range 12 {
		p := poolWith(homePool(), func(p *impl.Pool) { p.Addrs = lentAddrs(count) })
		wantPoolAs(t, fmt.Sprintf("%d addresses", count), p, count >= 1 && count <= 8)
	}
	for _, count := range []int{1, 2, 8} {
		for at := range count {
			for _, a := range append(noAddresses(), hostSix) {
				p := poolWith(homePool(), func(p *impl.Pool) { p.Addrs = lentAddrs(count); p.Addrs[at] = a })
				wantPoolAs(t, fmt.Sprintf("one of %d bytes at %d of %d", len(a), at, count), p, false)
			}
			for other := range at {
				p := poolWith(homePool(), func(p *impl.Pool) { p.Addrs = lentAddrs(count); p.Addrs[at] = p.Addrs[other] })
				wantPoolAs(t, fmt.Sprintf("two alike at %d and %d of %d", other, at, count), p, false)
			}
		}
	}
	far := poolWith(homePool(), func(p *impl.Pool) { p.Addrs = slices.Repeat([]string{lentOne}, impl.MaxList+1) })
	wantPoolAs(t, "far too many", far, false)
	wantPoolAs(t, "the zero Pool", impl.Pool{}, false)
	wantPoolAs(t, "all bytes 0", poolWith(homePool(), func(p *impl.Pool) { p.Addrs = []string{"\x00\x00\x00\x00", "\xff\xff\xff\xff"} }), true)
}

func TestPoolPorts(t *testing.T) {
	edges := []int64{math.MinInt64, -65535, -1, 0, 1, 2, 1024, 65534, 65535, 65536, 1<<16 + 2000, 1 << 32, math.MaxInt64}
	for _, low := range edges {
		for _, high := range edges {
			p := poolWith(homePool(), func(p *impl.Pool) { p.Low, p.High = low, high })
			wantPoolAs(t, fmt.Sprintf("from %d to %d", low, high), p, low >= 1 && low <= high && high <= 65535)
		}
	}
}

func TestPoolNumbers(t *testing.T) {
	for _, field := range []struct {
		what  string
		set   func(p *impl.Pool, n int64)
		right []int64
		wrong []int64
	}{
		{"Most", func(p *impl.Pool, n int64) { p.Most = n }, []int64{1, 2, 59, 60}, []int64{0, -1, -60, 61, 62, 256 + 1, 1<<32 + 1, math.MinInt64, math.MaxInt64}},
		{"Filter", func(p *impl.Pool, n int64) { p.Filter = n }, []int64{0, 1, 2}, []int64{-1, -2, 3, 4, 256, 257, 1 << 32, math.MinInt64, math.MaxInt64}},
	} {
		for _, n := range field.right {
			wantPoolAs(t, fmt.Sprintf("%s of %d", field.what, n), poolWith(homePool(), func(p *impl.Pool) { field.set(p, n) }), true)
		}
		for _, n := range field.wrong {
			wantPoolAs(t, fmt.Sprintf("%s of %d", field.what, n), poolWith(homePool(), func(p *impl.Pool) { field.set(p, n) }), false)
		}
	}
	for _, l := range append(wrongLives(), impl.Lives{}) {
		wantPoolAs(t, fmt.Sprintf("lives %+v", l), poolWith(homePool(), func(p *impl.Pool) { p.Lives = l }), false)
	}
	for _, n := range []int64{1, 10000} {
		p := poolWith(homePool(), func(p *impl.Pool) { p.Lives = livesOf([5]int64{n, n, n, n, n}) })
		wantPoolAs(t, fmt.Sprintf("lives of %d", n), p, true)
	}
}

// A bib that is right by itself is refused beside a pool that is not.
func TestRightBibOfWrongPool(t *testing.T) {
	wantBibAs(t, "as it is", homePool(), homeBib(), true)
	for what, change := range map[string]func(p *impl.Pool){
		"two alike":     func(p *impl.Pool) { p.Addrs = append(p.Addrs, lentOne) },
		"six among":     func(p *impl.Pool) { p.Addrs = append(p.Addrs, hostSix) },
		"Filter of 3":   func(p *impl.Pool) { p.Filter = 3 },
		"High at 65536": func(p *impl.Pool) { p.High = 65536 },
		"Low at 0":      func(p *impl.Pool) { p.Low = 0 },
		"Most of 61":    func(p *impl.Pool) { p.Most = 61 },
		"lives":         func(p *impl.Pool) { p.Lives.Echo = 0 },
	} {
		wantBibAs(t, what, poolWith(homePool(), change), homeBib(), false)
	}
}

// Each sentence of what a right bib is, broken alone.
func TestBibsThatAreWrong(t *testing.T) {
	for what, change := range map[string]func(b *impl.Bib){
		"no sessions":                    func(b *impl.Bib) { b.Sessions = nil },
		"no binds":                       func(b *impl.Bib) { b.Binds = nil },
		"the first bind has no session":  func(b *impl.Bib) { b.Sessions = b.Sessions[1:5] },
		"the second bind has no session": func(b *impl.Bib) { b.Sessions = slices.Delete(b.Sessions, 1, 2) },
		"the last bind has no session":   func(b *impl.Bib) { b.Sessions = slices.Delete(b.Sessions, 4, 5) },
		"a session of another proto":     func(b *impl.Bib) { b.Sessions[3].Proto = impl.Tcp },
		"a session of another host":      func(b *impl.Bib) { b.Sessions[2].In = hostC },
		"a session of another port":      func(b *impl.Bib) { b.Sessions[2].InPort = 1003 },
		"a session more, of no bind": func(b *impl.Bib) {
			b.Sessions = append(b.Sessions, openSession(impl.Bind{Proto: 17, In: hostC}, peerA, 1, 9))
		},
		"a session in front, of no bind": func(b *impl.Bib) {
			b.Sessions = slices.Insert(b.Sessions, 0, openSession(impl.Bind{Proto: 6, In: hostB, InPort: 1002}, peerA, 1, 9))
		},
		"a session of the end outside":     func(b *impl.Bib) { b.Sessions[2].In, b.Sessions[2].InPort = lentOne, 1004 },
		"a bind twice":                     func(b *impl.Bib) { b.Binds = append(b.Binds, b.Binds[2]) },
		"one end inside, two outside":      func(b *impl.Bib) { b.Binds = append(b.Binds, b.Binds[2]); b.Binds[5].OutPort = 1009 },
		"one end outside, two inside":      func(b *impl.Bib) { b.Binds[2].OutPort = 1002 },
		"one end outside, two of one host": func(b *impl.Bib) { b.Binds[3].Proto, b.Sessions[3].Proto, b.Binds[4].OutPort = 17, 17, 1001 },
		"one In with two Outs":             func(b *impl.Bib) { b.Binds[1].Out = lentTwo },
		"one In with two Outs, the first":  func(b *impl.Bib) { b.Binds[0].Out = lentLast },
		"one In with two Outs, of six":     func(b *impl.Bib) { b.Binds[4].Out = lentLast },
		"an Out of no pool":                func(b *impl.Bib) { b.Binds[2].Out = addressOf("203.0.113.4") },
		"an Out of the inside":             func(b *impl.Bib) { b.Binds[2].Out = hostB },
		"no Out":                           func(b *impl.Bib) { b.Binds[2].Out = "" },
		"a session twice":                  func(b *impl.Bib) { b.Sessions = append(b.Sessions, b.Sessions[6]) },
		"a session twice, at other times":  func(b *impl.Bib) { b.Sessions = append(b.Sessions, b.Sessions[0]); b.Sessions[7].Until = 7 },
		"a session twice, of two states":   func(b *impl.Bib) { b.Sessions = append(b.Sessions, b.Sessions[1]); b.Sessions[7].State = 6 },
		"a zero bind":                      func(b *impl.Bib) { b.Binds[2] = impl.Bind{} },
		"a zero session":                   func(b *impl.Bib) { b.Sessions[6] = impl.Session{} },
		"a zero bind with a zero session":  func(b *impl.Bib) { b.Binds[2], b.Sessions[2] = impl.Bind{}, impl.Session{} },
		"far too many binds":               func(b *impl.Bib) { b.Binds = slices.Repeat(b.Binds, 100) },
		"far too many sessions":            func(b *impl.Bib) { b.Sessions = slices.Repeat(b.Sessions, 100) },
	} {
		wantBibAs(t, what, homePool(), bibWith(homeBib(), change), false)
	}
}

// What comes close to a broken sentence, and breaks none.
func TestBibsThatAreRight(t *testing.T) {
	for what, change := range map[string]func(b *impl.Bib){
		"as it is":                        func(b *impl.Bib) {},
		"empty":                           func(b *impl.Bib) { *b = impl.Bib{} },
		"empty lists":                     func(b *impl.Bib) { *b = impl.Bib{Binds: []impl.Bind{}, Sessions: []impl.Session{}} },
		"binds in another order":          func(b *impl.Bib) { slices.Reverse(b.Binds) },
		"sessions in another order":       func(b *impl.Bib) { slices.Reverse(b.Sessions) },
		"all of one host at another Out":  func(b *impl.Bib) { b.Binds[3].Out, b.Binds[4].Out = lentLast, lentLast },
		"like ports of two Outs":          func(b *impl.Bib) { b.Binds[2].OutPort = 1001 },
		"like ports of two protos":        func(b *impl.Bib) { b.Binds[3].OutPort = 1002 },
		"a host inside at the pool's end": func(b *impl.Bib) { b.Binds[2].In, b.Sessions[2].In = lentOne, lentOne },
		"a peer at the pool's end":        func(b *impl.Bib) { b.Sessions[2].Peer, b.Sessions[2].PeerPort = lentOne, 1004 },
		"a peer inside":                   func(b *impl.Bib) { b.Sessions[2].Peer, b.Sessions[2].PeerPort = hostB, 1002 },
		"a peer's other port":             func(b *impl.Bib) { b.Sessions[6].PeerPort = 55 },
		"a port of ICMP's peer":           func(b *impl.Bib) { b.Sessions[3].PeerPort = 9 },
		"without the last sessions":       func(b *impl.Bib) { b.Sessions = b.Sessions[:5] },
	} {
		wantBibAs(t, what, homePool(), bibWith(homeBib(), change), true)
	}
}

// setHost puts a bind and its session to another end inside.
func setHost(b *impl.Bib, at int, set func(proto *int64, in *string, port *int64)) {
	bind, s := &b.Binds[at], &b.Sessions[at]
	set(&bind.Proto, &bind.In, &bind.InPort)
	set(&s.Proto, &s.In, &s.InPort)
}

func TestNumbersOfBibs(t *testing.T) {
	for _, field := range []struct {
		what  string
		set   func(b *impl.Bib, n int64)
		right []int64
		wrong []int64
	}{
		{"Proto", func(b *impl.Bib, n int64) { setHost(b, 2, func(proto *int64, _ *string, _ *int64) { *proto = n }) },
			bibProtos, strangeProtos()},
		{"InPort", func(b *impl.Bib, n int64) { setHost(b, 2, func(_ *int64, _ *string, port *int64) { *port = n }) },
			someWords, noWords},
		{"OutPort", func(b *impl.Bib, n int64) { b.Binds[2].OutPort = n },
			[]int64{1000, 1001, 1003, 1008, 1009}, append([]int64{0, 1, 999, 1010, 1011, 65535, 65536 + 1004, 1<<32 + 1004}, noWords...)},
		{"PeerPort", func(b *impl.Bib, n int64) { b.Sessions[2].PeerPort = n }, someWords, noWords},
		{"State of TCP", func(b *impl.Bib, n int64) { b.Sessions[1].State = n }, []int64{1, 2, 3, 4, 5, 6, 7}, farStates},
		{"State of UDP", func(b *impl.Bib, n int64) { b.Sessions[2].State = n }, []int64{3}, append([]int64{1, 2, 4, 5, 6, 7}, farStates...)},
		{"State of ICMP", func(b *impl.Bib, n int64) { b.Sessions[3].State = n }, []int64{3}, append([]int64{1, 2, 4, 5, 6, 7}, farStates...)},
		{"Until", func(b *impl.Bib, n int64) { b.Sessions[2].Until = n }, []int64{0, 1, 999999999, 1000000000, 1000000001, 1999999999, 2000000000},
			[]int64{-1, -2000000000, 2000000001, 1 << 31, 1 << 32, math.MinInt64, math.MaxInt64}},
	} {
		for _, n := range field.right {
			wantBibAs(t, fmt.Sprintf("%s of %d", field.what, n), homePool(), bibWith(homeBib(), func(b *impl.Bib) { field.set(b, n) }), true)
		}
		for _, n := range field.wrong {
			wantBibAs(t, fmt.Sprintf("%s of %d", field.what, n), homePool(), bibWith(homeBib(), func(b *impl.Bib) { field.set(b, n) }), false)
		}
	}
}

func TestTextsOfBibs(t *testing.T) {
	for _, a := range append(noAddresses(), hostC, addressOf("2001:db8::6")) {
		what, four, six := fmt.Sprintf("of %d bytes", len(a)), len(a) == 4, len(a) == 16
		in := bibWith(homeBib(), func(b *impl.Bib) { setHost(b, 2, func(_ *int64, in *string, _ *int64) { *in = a }) })
		wantBibAs(t, "In "+what, homePool(), in, four || six)
		peer := bibWith(homeBib(), func(b *impl.Bib) { b.Sessions[2].Peer = a })
		wantBibAs(t, "Peer "+what, homePool(), peer, four)
		out := bibWith(homeBib(), func(b *impl.Bib) { b.Binds[2].Out = a })
		wantBibAs(t, "Out "+what, homePool(), out, false)
	}
}

// As many sessions as Most, with few binds and with many, and one more.
func TestMostSessions(t *testing.T) {
	for _, most := range []int64{1, 2, 59, 60} {
		p := poolWith(homePool(), func(p *impl.Pool) { p.Most, p.High = most, 2000 })
		one := impl.Bind{Proto: impl.Udp, In: hostA, InPort: 5, Out: lentOne, OutPort: 1000}
		few, many := impl.Bib{Binds: []impl.Bind{one}}, impl.Bib{}
		for n := range most + 1 {
			few.Sessions = append(few.Sessions, openSession(one, peerA, n, 500))
			bind := impl.Bind{Proto: impl.Udp, In: hostA, InPort: n, Out: lentOne, OutPort: 1000 + n}
			many.Binds = append(many.Binds, bind)
			many.Sessions = append(many.Sessions, openSession(bind, peerA, 53, 500))
			what := fmt.Sprintf("%d sessions, Most %d", n+1, most)
			wantBibAs(t, what+", one bind", p, few, n < most)
			wantBibAs(t, what+", as many binds", p, many, n < most)
		}
	}
}

func TestFirstBinds(t *testing.T) {
	b := homeBib()
	for _, bind := range b.Binds {
		wantBind(t, "BindOf", impl.BindOf(b, bind.Proto, bind.In, bind.InPort), bind)
		wantBind(t, "BindAt", impl.BindAt(b, bind.Proto, bind.Out, bind.OutPort), bind)
	}
	for _, c := range []struct {
		proto int64
		in    string
		port  int64
	}{{impl.Icmp, hostA, 1002}, {impl.Tcp, hostB, 1002}, {impl.Udp, hostA, 1003}, {impl.Udp, hostC, 1002}, {impl.Icmp6, hostSix, 7},
		{impl.Udp, hostA + "\x00", 1002}, {impl.Udp, "", 1002}, {0, "", 0}, {impl.Udp, hostA, 65536 + 1002}, {256 + 17, hostA, 1002}, {impl.Udp, lentOne, 1002}} {
		wantBind(t, fmt.Sprintf("BindOf %d %q %d", c.proto, c.in, c.port), impl.BindOf(b, c.proto, c.in, c.port), impl.Bind{})
		wantBind(t, "BindOf in none", impl.BindOf(impl.Bib{}, c.proto, c.in, c.port), impl.Bind{})
	}
	for _, c := range []struct {
		proto int64
		out   string
		port  int64
	}{{impl.Icmp, lentOne, 1002}, {impl.Tcp, lentOne, 1004}, {impl.Udp, lentOne, 1001}, {impl.Udp, lentLast, 1002}, {impl.Udp, hostA, 1002},
		{impl.Udp, lentTwo[:3], 1002}, {impl.Icmp6, lentTwo, 1001}, {0, "", 0}, {impl.Udp, lentOne, 65536 + 1002}, {256 + 17, lentOne, 1002}} {
		wantBind(t, fmt.Sprintf("BindAt %d %q %d", c.proto, c.out, c.port), impl.BindAt(b, c.proto, c.out, c.port), impl.Bind{})
		wantBind(t, "BindAt in none", impl.BindAt(impl.Bib{}, c.proto, c.out, c.port), impl.Bind{})
	}
}

// These two take any bib: of those that are not right the first bind is told, whatever it has.
func TestFirstBindsOfWrongBibs(t *testing.T) {
	long, longer := strings.Repeat("a", impl.MaxBytes), strings.Repeat("a", impl.MaxBytes+1)
	b := impl.Bib{Binds: []impl.Bind{
		{Proto: 17, In: hostA, InPort: 5, Out: lentOne, OutPort: 6},
		{Proto: 17, In: hostA, InPort: 5, Out: lentTwo, OutPort: 7},
		{Proto: 17, In: hostB, InPort: 5, Out: lentOne, OutPort: 6},
		{Proto: 999, In: "in", InPort: -4, Out: "out", OutPort: 1 << 40},
		{Proto: 6, In: long, InPort: 1, Out: long, OutPort: 2},
		{Proto: 6, In: longer, InPort: 1, Out: longer, OutPort: 2},
		{Out: lentOne},
		{In: hostB},
	}}
	wantBind(t, "the first of one inside", impl.BindOf(b, 17, hostA, 5), b.Binds[0])
	wantBind(t, "the first of one outside", impl.BindAt(b, 17, lentOne, 6), b.Binds[0])
	wantBind(t, "the other one outside", impl.BindAt(b, 17, lentTwo, 7), b.Binds[1])
	wantBind(t, "the other one inside", impl.BindOf(b, 17, hostB, 5), b.Binds[2])
	wantBind(t, "strange inside", impl.BindOf(b, 999, "in", -4), b.Binds[3])
	wantBind(t, "strange outside", impl.BindAt(b, 999, "out", 1<<40), b.Binds[3])
	wantBind(t, "long inside", impl.BindOf(b, 6, long, 1), b.Binds[4])
	wantBind(t, "long outside", impl.BindAt(b, 6, long, 2), b.Binds[4])
	wantBind(t, "too long inside", impl.BindOf(b, 6, longer, 1), impl.Bind{})
	wantBind(t, "too long outside", impl.BindAt(b, 6, longer, 2), impl.Bind{})
	wantBind(t, "empty inside", impl.BindOf(b, 0, "", 0), b.Binds[6])
	wantBind(t, "empty outside", impl.BindAt(b, 0, "", 0), b.Binds[7])
	many := impl.Bib{Binds: append(slices.Repeat([]impl.Bind{{Proto: 1}}, impl.MaxList+5), b.Binds[0])}
	wantBind(t, "behind very many", impl.BindOf(many, 17, hostA, 5), b.Binds[0])
	wantBind(t, "behind very many", impl.BindAt(many, 17, lentOne, 6), b.Binds[0])
}

func TestPortsByHand(t *testing.T) {
	p, b := homePool(), homeBib()
	for _, bind := range b.Binds {
		wantPort(t, "the one that there is", p, b, bind, bind.Out, bind.OutPort, impl.OK)
	}
	// The sum of 10.0.0.1 is 2561, that of 10.0.0.3 is 2563: their addresses are of the numbers 2 and 1.
	for _, c := range []struct {
		what  string
		proto int64
		in    string
		port  int64
		out   string
		lent  int64
	}{
		{"kept, of a host with binds", impl.Udp, hostA, 1005, lentOne, 1005},
		{"kept at Low", impl.Udp, hostA, 1000, lentOne, 1000},
		{"kept at High", impl.Udp, hostA, 1009, lentOne, 1009},
		{"lent to another one, even", impl.Udp, hostA, 1004, lentOne, 1000},
		{"lent of another proto alone", impl.Icmp, hostA, 1004, lentOne, 1004},
		{"lent of TCP too", impl.Tcp, hostB, 1002, lentOne, 1000},
		{"lent at another address alone", impl.Udp, hostSix, 1004, lentTwo, 1004},
		{"lent to the host itself, another one inside", impl.Icmp, hostSix, 1001, lentTwo, 1003},
		{"below Low, odd", impl.Udp, hostA, 999, lentOne, 1001},
		{"below Low, even", impl.Udp, hostA, 998, lentOne, 1000},
		{"at 0", impl.Udp, hostA, 0, lentOne, 1000},
		{"above High, even", impl.Udp, hostA, 1010, lentOne, 1000},
		{"at 65535", impl.Udp, hostA, 65535, lentOne, 1001},
		{"a new host, number 1 of 3", impl.Udp, hostC, 1002, lentTwo, 1000},
		{"a new host, kept", impl.Tcp, hostC, 1002, lentTwo, 1002},
		{"a new host of six", impl.Tcp, addressOf("2001:db8::6"), 1002, lentLast, 1002},
	} {
		wantPort(t, c.what, p, b, impl.Bind{Proto: c.proto, In: c.in, InPort: c.port}, c.out, c.lent, impl.OK)
	}
	wantPort(t, "nobody has one", p, impl.Bib{}, impl.Bind{Proto: impl.Udp, In: hostA, InPort: 1002}, lentLast, 1002, impl.OK)
}

// Pools of a few ports of which some are lent, all choices of these, and wishes inside and outside of it.
func TestLeastFreePorts(t *testing.T) {
	for _, edge := range []struct{ low, high int64 }{{5, 10}, {6, 10}, {5, 9}, {6, 11}, {1, 1}, {2, 2}, {1, 2}, {65535, 65535}, {65534, 65535}, {65530, 65534}} {
		p := impl.Pool{Addrs: []string{lentOne}, Low: edge.low, High: edge.high, Most: 60, Lives: someLives()}
		count := edge.high - edge.low + 1
		for marks := range int64(1) << count {
			var b impl.Bib
			for i := range count {
				if marks>>i&1 == 1 {
					b.Binds = append(b.Binds, impl.Bind{Proto: impl.Udp, In: hostA, InPort: 7000 + i, Out: lentOne, OutPort: edge.low + i})
				}
			}
			b = bibOf(b.Binds...)
			wishes := []int64{0, 1, 2, 65534, 65535}
			for wish := edge.low - 2; wish <= edge.high+2; wish++ {
				if among(wish, 0, 65535) {
					wishes = append(wishes, wish)
				}
			}
			for _, wish := range wishes {
				port, code := leastOf(edge.low, edge.high, marks, wish)
				what := fmt.Sprintf("from %d to %d, lent %b, wish %d", edge.low, edge.high, marks, wish)
				wantPort(t, what, p, b, impl.Bind{Proto: impl.Udp, In: hostB, InPort: wish}, lentOne, port, code)
				free, _ := leastOf(edge.low, edge.high, 0, wish)
				wantPort(t, what+", of TCP", p, b, impl.Bind{Proto: impl.Tcp, In: hostB, InPort: wish}, lentOne, free, impl.OK)
			}
		}
	}
}

// leastOf goes by the document's words: the wish, then the least like it, then the least.
func leastOf(low int64, high int64, marks int64, wish int64) (port int64, code int64) {
	var alike, others []int64
	for at := low; at <= high; at++ {
		switch {
		case marks>>(at-low)&1 == 1:
			continue
		case at == wish:
			return at, impl.OK
		case at%2 == wish%2:
			alike = append(alike, at)
		default:
			others = append(others, at)
		}
	}
	if free := append(alike, others...); len(free) > 0 {
		return free[0], impl.OK
	}
	return 0, impl.ErrFull
}

func TestAddressesOfHosts(t *testing.T) {
	hosts := append(madeAddresses(4, 60), madeAddresses(16, 60)...)
	hosts = append(hosts, "\x00\x00\x00\x00", "\xff\xff\xff\xff", strings.Repeat("\x00", 16), strings.Repeat("\xff", 16), "\x00\x01\x00\x02")
	for count := 1; count <= 8; count++ {
		p := poolWith(homePool(), func(p *impl.Pool) { p.Addrs = lentAddrs(count); slices.Reverse(p.Addrs) })
		for _, host := range hosts {
			chosen := p.Addrs[expected(host)%int64(count)]
			for _, proto := range bibProtos {
				wantPort(t, fmt.Sprintf("a host without a bind, %d addresses", count), p, impl.Bib{}, impl.Bind{Proto: proto, In: host, InPort: 1007}, chosen, 1007, impl.OK)
			}
			for _, out := range p.Addrs {
				had := impl.Bind{Proto: impl.Icmp, In: host, InPort: 3, Out: out, OutPort: 1007}
				b := bibOf(impl.Bind{Proto: impl.Udp, In: withBitFlipped(host, 0), InPort: 3, Out: p.Addrs[0], OutPort: 1007}, had)
				wantPort(t, "a host with a bind of another proto", p, b, impl.Bind{Proto: impl.Tcp, In: host, InPort: 1007}, out, 1007, impl.OK)
				wantPort(t, "a host with a bind of this proto", p, b, impl.Bind{Proto: impl.Icmp, In: host, InPort: 1007}, out, 1001, impl.OK)
			}
		}
	}
}

// A host whose address has no port left has none, though others have: it goes out under one address.
func TestNoPortLeft(t *testing.T) {
	p := impl.Pool{Addrs: lentAddrs(2), Low: 7, High: 8, Most: 60, Lives: someLives()}
	b := bibOf(impl.Bind{Proto: impl.Udp, In: hostA, InPort: 1, Out: lentOne, OutPort: 7},
		impl.Bind{Proto: impl.Udp, In: hostA, InPort: 2, Out: lentOne, OutPort: 8},
		impl.Bind{Proto: impl.Udp, In: hostB, InPort: 7, Out: lentTwo, OutPort: 7})
	wantPort(t, "of a host with two", p, b, impl.Bind{Proto: impl.Udp, In: hostA, InPort: 7}, "", 0, impl.ErrFull)
	wantPort(t, "one that it has", p, b, impl.Bind{Proto: impl.Udp, In: hostA, InPort: 1}, lentOne, 7, impl.OK)
	wantPort(t, "of another proto", p, b, impl.Bind{Proto: impl.Icmp, In: hostA, InPort: 7}, lentOne, 7, impl.OK)
	wantPort(t, "of the other address", p, b, impl.Bind{Proto: impl.Udp, In: hostB, InPort: 9}, lentTwo, 8, impl.OK)
	// The sum of 10.0.0.4 is 2564: it would go out under the address of the number 0.
	wantPort(t, "a new host at the full address", p, b, impl.Bind{Proto: impl.Udp, In: addressOf("10.0.0.4"), InPort: 7}, "", 0, impl.ErrFull)
	wantPort(t, "a new host at the other one", p, b, impl.Bind{Proto: impl.Udp, In: hostC, InPort: 7}, lentTwo, 8, impl.OK)
}

// Most bounds sessions when packets go by, not what a port is asked for.
func TestPortsBesideMost(t *testing.T) {
	p := poolWith(homePool(), func(p *impl.Pool) { p.Most = 7 })
	wantPort(t, "Most reached", p, homeBib(), impl.Bind{Proto: impl.Udp, In: hostC, InPort: 1005}, lentTwo, 1005, impl.OK)
}

func TestPortFaults(t *testing.T) {
	p, b := homePool(), homeBib()
	long := strings.Repeat("a", impl.MaxBytes+1)
	wrongPool, wrongBib := poolWith(p, func(p *impl.Pool) { p.Low = 0 }), bibWith(b, func(b *impl.Bib) { b.Sessions = nil })
	full := bibOf(impl.Bind{Proto: impl.Udp, In: hostA, InPort: 1, Out: lentOne, OutPort: 7})
	tiny := impl.Pool{Addrs: []string{lentOne}, Low: 7, High: 7, Most: 60, Lives: someLives()}
	for _, c := range []struct {
		what  string
		p     impl.Pool
		b     impl.Bib
		proto int64
		in    string
		port  int64
		code  int64
	}{
		{"too long, all else wrong", wrongPool, wrongBib, 0, long, -1, impl.ErrSize},
		{"too long", p, b, impl.Udp, long, 5, impl.ErrSize},
		{"just no address", p, b, impl.Udp, long[1:], 5, impl.ErrForm},
		{"a wrong pool", wrongPool, impl.Bib{}, impl.Udp, hostA, 5, impl.ErrForm},
		{"a wrong bib", p, wrongBib, impl.Udp, hostA, 5, impl.ErrForm},
		{"a wrong bib that has the bind", p, wrongBib, impl.Udp, hostA, 1002, impl.ErrForm},
		{"no port left", tiny, full, impl.Udp, hostB, 7, impl.ErrFull},
		{"no port left, and no proto", tiny, full, impl.Icmp6, hostB, 7, impl.ErrForm},
		{"no port left, and no address", tiny, full, impl.Udp, hostB + "\x00", 7, impl.ErrForm},
		{"no port left, and no word", tiny, full, impl.Udp, hostB, 65536, impl.ErrForm},
	} {
		want := impl.BibOut{Code: c.code}
		wantBibOut(t, c.what, impl.PortFor(c.p, c.b, c.proto, c.in, c.port), want)
		wantBibOut(t, c.what+" (as reckoned)", lentFor(c.p, c.b, c.proto, c.in, c.port), want)
	}
	for _, proto := range strangeProtos() {
		wantBibOut(t, fmt.Sprintf("proto %d", proto), impl.PortFor(p, b, proto, hostA, 1002), impl.BibOut{Code: impl.ErrForm})
	}
	for _, port := range noWords {
		wantBibOut(t, fmt.Sprintf("port %d", port), impl.PortFor(p, b, impl.Udp, hostA, port), impl.BibOut{Code: impl.ErrForm})
	}
	for _, port := range someWords {
		wantNumber(t, fmt.Sprintf("port %d", port), impl.PortFor(p, b, impl.Udp, hostA, port).Code, impl.OK)
	}
	for _, a := range noAddresses() {
		if len(a) <= impl.MaxBytes {
			wantBibOut(t, fmt.Sprintf("a host of %d bytes", len(a)), impl.PortFor(p, b, impl.Udp, a, 5), impl.BibOut{Code: impl.ErrForm})
		}
	}
}
