package tests

import (
	"fmt"
	"regexp"
	"slices"
	"strings"
	"testing"

	"loop.example/g00314/impl"
)

// deskHosts are two hosts inside, one of each kind of address, that send from these ports to one peer outside.
type deskHosts struct {
	proto     string
	fourPort  int64
	sixPort   int64
	peerPort  int64
	sixAhead  bool
	fourLent  int64
	sixLent   int64
	firstText string
}

const (
	deskWays = "route 10.0.0.0 8 7\nroute 2001:db8:: 32 9\nroute 0.0.0.0 0 600\n"
	deskFour = "10.0.0.1"
	deskSix  = "2001:db8::5"
)

// flagsText is what stands behind the ports of a line: the flags of tcp alone.
func flagsText(proto string, flags int64) string {
	if proto == "tcp" {
		return fmt.Sprintf(" %d\n", flags)
	}
	return "\n"
}

// comesBack is a line of what comes from a peer outside to a port of the pool.
func (h deskHosts) comesBack(peer string, peerPort int64, port int64, flags int64) string {
	return fmt.Sprintf("%s out %s %d 203.0.113.1 %d", h.proto, peer, peerPort, port) + flagsText(h.proto, flags)
}

func (h deskHosts) bothComeBack(peer string, flags int64) string {
	return h.comesBack(peer, h.peerPort, h.fourLent, flags) + h.comesBack(peer, h.peerPort, h.sixLent, flags)
}

// meets runs these lines behind those that the hosts have sent, and holds what they tell against that.
func (h deskHosts) meets(t *testing.T, what string, lines string, tells ...string) {
	t.Helper()
	what = fmt.Sprintf("%s, %+v", what, h)
	got := impl.DeskRun(h.firstText + lines)
	wantNumber(t, what, got.Code, impl.OK)
	told := strings.Split(got.Text, "\n")
	if count := strings.Count(h.firstText, "\n"); len(told) > count {
		told = told[count:]
	}
	if !slices.Equal(told, append(slices.Clone(tells), "")) {
		t.Errorf("%s: got %q, want %q", what, told, tells)
	}
}

// lentTo is the port that a host is lent beside one that is lent already (0: none is).
func lentTo(port int64, lent int64) int64 {
	if port >= 1024 && port <= 1031 && port != lent {
		return port
	}
	least := 1024 + port%2
	if least == lent {
		return least + 2
	}
	return least
}

// send lets both hosts send, and asks that each has a port of its own of one address.
func (h deskHosts) send(t *testing.T) deskHosts {
	t.Helper()
	four := fmt.Sprintf("%s in %s %d 192.0.2.9 %d", h.proto, deskFour, h.fourPort, h.peerPort) + flagsText(h.proto, 2)
	six := fmt.Sprintf("%s in %s %d 64:ff9b::c000:209 %d", h.proto, deskSix, h.sixPort, h.peerPort) + flagsText(h.proto, 2)
	h.firstText = deskWays + four + six
	h.fourLent = lentTo(h.fourPort, 0)
	h.sixLent = lentTo(h.sixPort, h.fourLent)
	if h.sixAhead {
		h.firstText = deskWays + six + four
		h.sixLent = lentTo(h.sixPort, 0)
		h.fourLent = lentTo(h.fourPort, h.sixLent)
	}
	tells := []string{
		fmt.Sprintf("0 600:203.0.113.1>192.0.2.9:%d>%d", h.fourLent, h.peerPort),
		fmt.Sprintf("0 600:203.0.113.1>192.0.2.9:%d>%d", h.sixLent, h.peerPort),
	}
	binds := []string{fmt.Sprintf(" %s:%d>203.0.113.1:%d", deskFour, h.fourPort, h.fourLent), fmt.Sprintf(" %s:%d>203.0.113.1:%d", deskSix, h.sixPort, h.sixLent)}
	if h.sixAhead {
		slices.Reverse(tells)
		slices.Reverse(binds)
	}
	want := "ok\nok\nok\n" + strings.Join(tells, "\n") + "\nbinds" + strings.Join(binds, "") + "\n"
	wantDeskOut(t, fmt.Sprintf("both send, %+v", h), impl.DeskRun(h.firstText+"binds\n"), impl.DeskOut{Text: want})
	wantAnswer(t, "each has a port of its own", h.fourLent != h.sixLent, true)
	return h
}

// wantPromise26 asks what comes back to two hosts, and what does not.
func (h deskHosts) wantPromise26(t *testing.T) {
	t.Helper()
	h = h.send(t)
	// How long a session lasts that nobody has answered yet, and one that is answered.
	begun, answered := int64(30), int64(30)
	if h.proto == "tcp" {
		begun, answered = 5, 100
	}
	both := []string{
		fmt.Sprintf("0 7:192.0.2.9>%s:%d>%d", deskFour, h.peerPort, h.fourPort),
		fmt.Sprintf("0 9:64:ff9b::c000:209>%s:%d>%d", deskSix, h.peerPort, h.sixPort),
	}
	back := h.bothComeBack("192.0.2.9", 18)
	h.meets(t, "what comes back", back, both...)
	h.meets(t, "what comes back twice", back+back, append(slices.Clone(both), both...)...)
	for _, peer := range []string{"192.0.2.10", "192.0.2.8", "192.0.3.9", "10.0.0.1", "203.0.113.1"} {
		h.meets(t, "from elsewhere: "+peer, h.bothComeBack(peer, 18)+h.bothComeBack(peer, 2)+back, "6", "6", "6", "6", both[0], both[1])
	}
	nobodys := ""
	var none []string
	for port := int64(1022); port <= 1033; port++ {
		if port != h.fourLent && port != h.sixLent {
			nobodys, none = nobodys+h.comesBack("192.0.2.9", h.peerPort, port, 18), append(none, "6")
		}
	}
	h.meets(t, "to ports that nobody has", nobodys, none...)
	early, late := fmt.Sprintf("tick %d", begun-1), fmt.Sprintf("tick %d", begun)
	h.meets(t, "in time", early+"\n"+back, early, both[0], both[1])
	h.meets(t, "too late", late+"\n"+back+"binds\n", late, "6", "6", "binds")
	h.meets(t, "late, by two steps", early+"\ntick 1\n"+back+"binds\n", early, late, "6", "6", "binds")
	again := begun - 1 + answered
	h.meets(t, "in time once more", fmt.Sprintf("%s\n%stick %d\n%s", early, back, answered-1, back),
		early, both[0], both[1], fmt.Sprintf("tick %d", again-1), both[0], both[1])
	h.meets(t, "too late once more", fmt.Sprintf("%s\n%stick %d\n%sbinds\n", early, back, answered, back),
		early, both[0], both[1], fmt.Sprintf("tick %d", again), "6", "6", "binds")
	// As long as one of them goes on, it has its port; the other one's is gone all the same.
	h.meets(t, "one goes on", fmt.Sprintf("%s\n%stick 1\n%s", early, h.comesBack("192.0.2.9", h.peerPort, h.sixLent, 18), back),
		early, both[1], late, "6", both[1])
}

// Promise 26, from ports at the edges of those that are lent, and from others.
func TestTwoHostsAtADesk(t *testing.T) {
	ports := []int64{0, 1, 2, 53, 1023, 1024, 1025, 1026, 1027, 1030, 1031, 1032, 40000, 65534, 65535}
	for _, proto := range []string{"udp", "tcp"} {
		for _, fourPort := range ports {
			for _, sixPort := range ports {
				h := deskHosts{proto: proto, fourPort: fourPort, sixPort: sixPort, peerPort: 53}
				h.wantPromise26(t)
				h.sixAhead = true
				h.wantPromise26(t)
			}
		}
	}
}

func TestTwoHostsFromAnyPorts(t *testing.T) {
	d := dice(26)
	for range 300 {
		h := deskHosts{proto: []string{"udp", "tcp"}[d.upTo(1)], fourPort: d.upTo(65535), sixPort: d.upTo(65535), peerPort: d.upTo(65535), sixAhead: d.yes()}
		h.wantPromise26(t)
	}
}

// Both protos at once have the same ports of their own.
func TestTwoHostsByBothProtos(t *testing.T) {
	udp := deskHosts{proto: "udp", fourPort: 1027, sixPort: 1027, peerPort: 53}.send(t)
	tcp := deskHosts{proto: "tcp", fourPort: 1027, sixPort: 1027, peerPort: 53}.send(t)
	text := udp.firstText + strings.TrimPrefix(tcp.firstText, deskWays) + udp.bothComeBack("192.0.2.9", 0) + tcp.bothComeBack("192.0.2.9", 18)
	lines := strings.Split(deskRuns(t, "both protos", text).Text, "\n")[3:]
	out := []string{"0 600:203.0.113.1>192.0.2.9:1027>53", "0 600:203.0.113.1>192.0.2.9:1025>53"}
	in := []string{"0 7:192.0.2.9>10.0.0.1:53>1027", "0 9:64:ff9b::c000:209>2001:db8::5:53>1027"}
	if want := slices.Concat(out, out, in, in, []string{""}); !slices.Equal(lines, want) {
		t.Errorf("both protos: got %q, want %q", lines, want)
	}
}

// zeroCheckPort is a port of the peer from which a packet of UDP to a lent port has a check of 0 before that becomes 65535.
func zeroCheckPort(t *testing.T, lent int64) int64 {
	t.Helper()
	pseudo := pseudoOf(addressOf("192.0.2.9"), addressOf("203.0.113.1"), 17, 10)
	for port := range int64(65536) {
		if expected(pseudo+impl.WordBytes(port)+impl.WordBytes(lent)+"\x00\x0a\x00\x00hi") == 65535 {
			return port
		}
	}
	t.Fatalf("no port has a check of 0 to %d", lent)
	return 0
}

// A check that comes to 0 is none for a packet of UDP; without one nothing comes to a host of IPv6.
func TestTwoHostsAndChecksOfZero(t *testing.T) {
	for sixPort := int64(1024); sixPort <= 1031; sixPort++ {
		for _, sixAhead := range []bool{true, false} {
			h := deskHosts{proto: "udp", fourPort: 40001, sixPort: sixPort, sixAhead: sixAhead, peerPort: 53}.send(t)
			for _, lent := range []int64{h.sixLent, h.fourLent} {
				h.peerPort = zeroCheckPort(t, lent)
				h.wantPromise26(t)
			}
		}
	}
}

func (d *dice) pick(words ...string) string {
	return words[d.upTo(int64(len(words)-1))]
}

// deskPacket is a line of a packet between ends by chance, of few hosts, peers and ports, so that what they do meets.
func (d *dice) deskPacket() string {
	from, to, side := "", "", "in"
	fromPort := d.pick("0", "5", "6", "7", "53", "1024", "1025", "1026", "1027", "1031", "1032", "40000", "40001", "65535", "65536")
	toPort := d.pick("53", "53", "53", "53", "54", "0", "1025", "1027", "65535", "65536")
	switch d.upTo(9) {
	case 0, 1, 2:
		from = d.pick("10.0.0.1", "10.0.0.2")
		to = d.pick("192.0.2.9", "192.0.2.9", "192.0.2.9", "192.0.2.8", "203.0.113.1", "10.0.0.2", "9.9.9.9", "192.0.2.1", "::1")
	case 3, 4, 5:
		from = d.pick("2001:db8::5", "2001:db8::6")
		to = d.pick("64:ff9b::c000:209", "64:ff9b::c000:209", "64:ff9b::c000:209", "64:ff9b::c000:208", "64:ff9b::cb00:7101", "64:ff9b::a00:1",
			"2001:db8::5", "3000::1", "2001:db8::1")
	case 6:
		side, from, to = "out", "3000::1", d.pick("2001:db8::5", "64:ff9b::c000:209", "203.0.113.1", "3000::2")
	default:
		side, from, to = "out", d.pick("192.0.2.9", "192.0.2.9", "192.0.2.8"), "203.0.113.1"
		fromPort, toPort = toPort, d.pick("1024", "1024", "1025", "1025", "1026", "1027", "1028", "1031", "1032")
	}
	ends := " " + side + " " + from + " " + fromPort + " " + to + " " + toPort
	if d.upTo(2) > 0 {
		return "udp" + ends
	}
	return "tcp" + ends + " " + d.pick("2", "2", "2", "18", "16", "17", "4", "0", "255", "256")
}

func (d *dice) deskLine() string {
	switch d.upTo(19) {
	case 0:
		return "route " + d.pick("10.0.0.0 8", "2001:db8:: 32", "0.0.0.0 0", "192.0.2.0 24", "3000:: 4", "10.0.0.1 32", "10.0.0.1 8", ":: 0") +
			" " + d.pick("7", "9", "500", "501", "600", "1000", "1001", "0")
	case 1:
		return "tick " + d.pick("0", "1", "2", "4", "8", "29", "30", "999999999")
	case 2:
		return "binds"
	}
	return d.deskPacket()
}

// Promise 25, of texts of all kinds of lines by chance, whose first lines tell the beginning of what all tell.
func TestMadeDesks(t *testing.T) {
	d := dice(27)
	met := map[string]int{}
	forms := map[string]*regexp.Regexp{
		"ok": regexp.MustCompile(`(?m)^ok$`), "an error": regexp.MustCompile(`(?m)^error 1$`), "a tick": regexp.MustCompile(`(?m)^tick \d+$`),
		"no binds": regexp.MustCompile(`(?m)^binds$`), "several binds": regexp.MustCompile(`(?m)^binds \S+ \S+`),
		"sent out": regexp.MustCompile(`(?m)^0 \d+:203.0.113.1>\S+:\d+>\d+$`), "sent in": regexp.MustCompile(`(?m)^0 \d+:192\S+>10\.\S+:\d+>\d+$`),
		"sent in as six": regexp.MustCompile(`(?m)^0 \d+:64:ff9b::\S+>2001\S+:\d+>\d+$`), "six to six": regexp.MustCompile(`(?m)^0 \d+:2001\S+>[23]\S+:\d+>\d+$`),
		"told of nothing": regexp.MustCompile(`(?m)^6$`), "told": regexp.MustCompile(`(?m)^6 \d+:192.0.2.1>10\.0\.0\.\d$`),
		"told in six": regexp.MustCompile(`(?m)^6 \d+:2001:db8::1>\S+$`), "full": regexp.MustCompile(`(?m)^9$`), "no kind": regexp.MustCompile(`(?m)^11$`),
	}
	for round := range 200 {
		text := ""
		if d.upTo(4) > 0 {
			text = deskWays
		}
		for strings.Count(text, "\n") < 60 && d.upTo(80) > 0 {
			text += d.deskLine() + "\n"
		}
		what := fmt.Sprintf("round %d, %q", round, text)
		got := deskRuns(t, what, text)
		wantNumber(t, what, got.Code, impl.OK)
		count := int64(strings.Count(text, "\n"))
		wantOneByOne(t, what, text, int(count), int(d.upTo(count)), int(d.upTo(count)), int(d.upTo(count)))
		for kind, form := range forms {
			met[kind] += len(form.FindAllString(got.Text, -1))
		}
	}
	for kind := range forms {
		wantAnswer(t, fmt.Sprintf("%s was met %d times", kind, met[kind]), met[kind] >= 20, true)
	}
}
