package tests

import (
	"fmt"
	"net/netip"
	"regexp"
	"slices"
	"strconv"
	"strings"
	"testing"

	"loop.example/g00314/impl"
)

// deskForms are the lines of the document's table, with what stands in the places of addresses taken out.
var deskForms = func() []*regexp.Regexp {
	var forms []*regexp.Regexp
	for _, form := range []string{"route A N N", "udp W A N A N", "tcp W A N A N N", "tick N", "binds"} {
		form = strings.NewReplacer("W", "(?:in|out)", "A", "([^ ]+)", "N", "(?:0|[1-9][0-9]{0,8})").Replace(form)
		forms = append(forms, regexp.MustCompile(`\A`+form+`\n\z`))
	}
	return forms
}()

// isAddressText holds a text against the library's spelling of the address that it is.
func isAddressText(text string) bool {
	addr, err := netip.ParseAddr(text)
	return err == nil && canonical(string(addr.AsSlice())) == text
}

func isDeskLine(line string) bool {
	for _, form := range deskForms {
		if places := form.FindStringSubmatch(line); places != nil {
			return !slices.ContainsFunc(places[1:], func(word string) bool { return !isAddressText(word) })
		}
	}
	return false
}

func deskPool() impl.Pool {
	return impl.Pool{Addrs: []string{"\xcb\x00\x71\x01"}, Low: 1024, High: 1031, Most: 20, Filter: 1,
		Lives: impl.Lives{Udp: 30, Echo: 10, Opening: 5, Open: 100, Closing: 8}}
}

// deskWork is a desk at work, by the document's words.
type deskWork struct {
	g impl.Gateway
}

func deskNumber(word string) int64 {
	n, err := strconv.Atoi(word)
	if err != nil {
		panic(err)
	}
	return int64(n)
}

func (w *deskWork) line(words []string) string {
	switch words[0] {
	case "route":
		return w.route(impl.Route{Prefix: impl.Prefix{Addr: addressOf(words[1]), Bits: deskNumber(words[2])}, Hop: deskNumber(words[3])})
	case "udp":
		return w.packet(words, 17, "\x00\x0a\x00\x00hi")
	case "tcp":
		if deskNumber(words[6]) > 255 {
			return "error 1"
		}
		return w.packet(words, 6, "\x00\x00\x00\x00\x00\x00\x00\x00\x50"+string([]byte{byte(deskNumber(words[6]))})+"\x03\xe8\x00\x00\x00\x00")
	case "tick":
		if n := deskNumber(words[1]); n <= 1000000000-w.g.Now {
			w.g = gateLater(w.g, n)
		}
		return fmt.Sprintf("tick %d", w.g.Now)
	}
	told := "binds"
	for _, b := range w.g.Bib.Binds {
		told += fmt.Sprintf(" %s:%d>%s:%d", canonical(b.In), b.InPort, canonical(b.Out), b.OutPort)
	}
	return told
}

func (w *deskWork) route(r impl.Route) string {
	next := gateClone(w.g)
	next.Routes = append(slices.DeleteFunc(next.Routes, func(q impl.Route) bool { return q.Prefix == r.Prefix }), r)
	if !gateIsRight(next) {
		return "error 1"
	}
	w.g = next
	return "ok"
}

func (w *deskWork) packet(words []string, proto int64, behind string) string {
	f := impl.Flow{Proto: proto, Src: addressOf(words[2]), SrcPort: deskNumber(words[3]), Dst: addressOf(words[4]), DstPort: deskNumber(words[5])}
	if len(f.Src) != len(f.Dst) || f.SrcPort > 65535 || f.DstPort > 65535 {
		return "error 1"
	}
	data := checked(f, impl.WordBytes(f.SrcPort)+impl.WordBytes(f.DstPort)+behind)
	text := ""
	if len(f.Src) == 4 {
		text = layFour(impl.V4{Whole: true, Ttl: 9, Proto: proto, Src: f.Src, Dst: f.Dst, Data: data})
	} else {
		text = laySix(impl.V6{Next: proto, Hops: 9, Src: f.Src, Dst: f.Dst, Data: data})
	}
	out := gateTold(w.g, words[1] == "in", text)
	w.g = out.Gateway
	told := fmt.Sprint(out.Code)
	for _, s := range out.Sends {
		told += deskSend(s)
	}
	return told
}

func deskSend(s impl.Send) string {
	src, dst, proto, data := "", "", int64(0), ""
	if s.Text[0]/16 == 4 {
		q := fourOf(s.Text).Packet
		src, dst, proto, data = q.Src, q.Dst, q.Proto, q.Data
	} else {
		q := sixOf(s.Text).Packet
		src, dst, proto, data = q.Src, q.Dst, q.Next, q.Data
	}
	told := fmt.Sprintf(" %d:%s>%s", s.Hop, canonical(src), canonical(dst))
	if out := flowTold(src, dst, proto, data); out.Code == impl.OK {
		told += fmt.Sprintf(":%d>%d", out.Flow.SrcPort, out.Flow.DstPort)
	}
	return told
}

// deskTold goes by the document's words.
func deskTold(text string) impl.DeskOut {
	if len(text) > 20000 {
		return impl.DeskOut{Code: impl.ErrSize}
	}
	w := deskWork{gateMade(nil, deskPool(), prefixOf("64:ff9b::/96"), 1280)}
	told := ""
	for i, line := range strings.SplitAfter(text, "\n") {
		if line == "" {
			break
		}
		if i >= 60 || !isDeskLine(line) {
			return impl.DeskOut{Line: int64(i), Code: impl.ErrSyntax}
		}
		told += w.line(strings.Fields(line)) + "\n"
	}
	return impl.DeskOut{Text: told}
}

func wantDeskOut(t *testing.T, what string, got impl.DeskOut, want impl.DeskOut) {
	t.Helper()
	if got != want {
		t.Errorf("%s: got %+v, want %+v", what, got, want)
	}
}

// deskRuns holds what a desk tells against the reckoned, and DeskFault against both.
func deskRuns(t *testing.T, what string, text string) impl.DeskOut {
	t.Helper()
	got, want := impl.DeskRun(text), deskTold(text)
	wantDeskOut(t, what, got, want)
	want.Text = ""
	wantDeskOut(t, what+": the fault alone", impl.DeskFault(text), want)
	return got
}

// wantOneByOne asks for promise 25: each line tells one, and the first lines alone tell the beginning of what all tell.
func wantOneByOne(t *testing.T, what string, text string, counts ...int) {
	t.Helper()
	lines, told := strings.SplitAfter(text, "\n"), strings.SplitAfter(impl.DeskRun(text).Text, "\n")
	wantNumber(t, what+": lines that are told", int64(len(told)), int64(len(lines)))
	for _, count := range counts {
		wantText(t, fmt.Sprintf("%s: the first %d lines", what, count),
			impl.DeskRun(strings.Join(lines[:count], "")).Text, strings.Join(told[:min(count, len(told))], ""))
	}
}

// deskCase is lines, each with what it tells behind " = ".
type deskCase struct {
	what  string
	lines string
}

func (c deskCase) split() (text string, told string) {
	for _, row := range strings.Split(strings.TrimSpace(c.lines), "\n") {
		line, tells, _ := strings.Cut(strings.TrimSpace(row), " = ")
		text, told = text+line+"\n", told+tells+"\n"
	}
	return text, told
}

// deskCases tell of each kind of line, by hand.
func deskCases() []deskCase {
	return slices.Concat(routeCases(), outCases(), sixCases(), lifeCases(), limitCases())
}

func routeCases() []deskCase {
	return []deskCase{
		{"routes of both kinds", `
			route 10.0.0.0 8 7 = ok
			route 0.0.0.0 0 600 = ok
			route 2001:db8:: 32 9 = ok
			route :: 0 601 = ok
			route 10.0.0.1 32 1 = ok
			route 10.0.0.0 8 1000 = ok
			route ffff:ffff:ffff:ffff:ffff:ffff:ffff:ffff 128 500 = ok
			route 128.0.0.0 1 501 = ok`},
		{"routes that are not right", `
			route 10.0.0.1 8 7 = error 1
			route 10.0.0.1 31 7 = error 1
			route 128.0.0.0 0 7 = error 1
			route 10.0.0.0 33 7 = error 1
			route 10.0.0.0 128 7 = error 1
			route 10.0.0.0 8 0 = error 1
			route 10.0.0.0 8 1001 = error 1
			route 10.0.0.0 999999999 7 = error 1
			route 10.0.0.0 8 999999999 = error 1
			route 2001:db8::1 127 7 = error 1
			route 2001:db8::1 129 7 = error 1
			route 2001:db8:: 31 7 = ok
			route 2001:db8:: 28 7 = error 1
			udp in 10.0.0.1 5 10.0.0.2 6 = 6
			route 10.0.0.0 7 7 = ok
			udp in 10.0.0.1 5 10.0.0.2 6 = 0 7:10.0.0.1>10.0.0.2:5>6`},
		{"in the place of one of that prefix", `
			route 10.0.0.0 8 7 = ok
			route 0.0.0.0 0 600 = ok
			udp in 10.0.0.1 5 10.0.0.2 6 = 0 7:10.0.0.1>10.0.0.2:5>6
			route 10.0.0.0 8 8 = ok
			udp in 10.0.0.1 5 10.0.0.2 6 = 0 8:10.0.0.1>10.0.0.2:5>6
			route 10.0.0.0 8 1001 = error 1
			udp in 10.0.0.1 5 10.0.0.2 6 = 0 8:10.0.0.1>10.0.0.2:5>6
			route 10.0.0.0 16 500 = ok
			udp in 10.0.0.1 5 10.0.0.2 6 = 0 500:10.0.0.1>10.0.0.2:5>6
			route 10.0.0.0 16 501 = ok
			udp in 10.0.0.1 5 10.0.0.2 6 = 0 501:203.0.113.1>10.0.0.2:1025>6
			route 2001:db8:: 32 9 = ok
			udp in 2001:db8::5 5 2001:db8::6 6 = 0 9:2001:db8::5>2001:db8::6:5>6
			route 2001:db8:: 32 12 = ok
			udp in 2001:db8::5 5 2001:db8::6 6 = 0 12:2001:db8::5>2001:db8::6:5>6
			route 32.1.13.184 32 13 = ok
			udp in 2001:db8::5 5 2001:db8::6 6 = 0 12:2001:db8::5>2001:db8::6:5>6
			binds = binds 10.0.0.1:5>203.0.113.1:1025`},
		{"to nowhere, until the bucket is empty", `
			udp in 10.0.0.1 5 192.0.2.9 53 = 6
			route 10.0.0.0 8 7 = ok
			udp in 10.0.0.1 5 192.0.2.9 53 = 6 7:192.0.2.1>10.0.0.1
			tcp in 10.0.0.2 5 192.0.2.9 53 2 = 6 7:192.0.2.1>10.0.0.2
			route 2001:db8:: 32 9 = ok
			udp in 2001:db8::5 5 3000::1 53 = 6 9:2001:db8::1>2001:db8::5
			tcp out 2001:db8::6 5 3000::1 53 255 = 6 9:2001:db8::1>2001:db8::6
			udp in 9.9.9.9 5 192.0.2.9 53 = 6
			udp in 10.0.0.1 5 192.0.2.9 53 = 6 7:192.0.2.1>10.0.0.1
			udp in 10.0.0.1 5 192.0.2.9 53 = 6
			tick 1 = tick 1
			udp in 10.0.0.1 5 192.0.2.9 53 = 6
			tick 1 = tick 2
			udp in 10.0.0.1 5 192.0.2.9 53 = 6 7:192.0.2.1>10.0.0.1
			udp in 2001:db8::5 5 3000::1 53 = 6
			binds = binds`},
		{"to the gateway itself", `
			route 0.0.0.0 0 7 = ok
			route :: 0 7 = ok
			udp in 10.0.0.1 5 192.0.2.1 53 = 11
			tcp out 10.0.0.1 5 192.0.2.1 53 2 = 11
			udp in 2001:db8::5 5 2001:db8::1 53 = 11
			tcp out 2001:db8::5 5 2001:db8::1 53 2 = 11`},
	}
}

func outCases() []deskCase {
	return []deskCase{
		{"out and back", `
			binds = binds
			route 10.0.0.0 8 7 = ok
			route 0.0.0.0 0 600 = ok
			udp out 192.0.2.9 53 203.0.113.1 1025 = 6
			udp in 10.0.0.1 5 192.0.2.9 53 = 0 600:203.0.113.1>192.0.2.9:1025>53
			binds = binds 10.0.0.1:5>203.0.113.1:1025
			udp out 192.0.2.9 53 203.0.113.1 1025 = 0 7:192.0.2.9>10.0.0.1:53>5
			udp out 192.0.2.9 54 203.0.113.1 1025 = 0 7:192.0.2.9>10.0.0.1:54>5
			udp out 192.0.2.8 53 203.0.113.1 1025 = 6
			udp out 192.0.2.9 53 203.0.113.1 1024 = 6
			udp out 192.0.2.9 53 203.0.113.2 1025 = 11
			udp out 192.0.2.9 53 10.0.0.1 5 = 11
			tcp out 192.0.2.9 53 203.0.113.1 1025 2 = 6
			binds = binds 10.0.0.1:5>203.0.113.1:1025`},
		{"ports that are lent, until none is left", `
			route 0.0.0.0 0 600 = ok
			udp in 10.0.0.1 1030 192.0.2.9 53 = 0 600:203.0.113.1>192.0.2.9:1030>53
			udp in 10.0.0.2 1030 192.0.2.9 53 = 0 600:203.0.113.1>192.0.2.9:1024>53
			udp in 10.0.0.3 1023 192.0.2.9 53 = 0 600:203.0.113.1>192.0.2.9:1025>53
			udp in 10.0.0.3 1032 192.0.2.9 53 = 0 600:203.0.113.1>192.0.2.9:1026>53
			udp in 10.0.0.3 1031 192.0.2.9 53 = 0 600:203.0.113.1>192.0.2.9:1031>53
			udp in 10.0.0.3 0 192.0.2.9 53 = 0 600:203.0.113.1>192.0.2.9:1028>53
			udp in 10.0.0.3 2 192.0.2.9 53 = 0 600:203.0.113.1>192.0.2.9:1027>53
			udp in 10.0.0.3 4 192.0.2.9 53 = 0 600:203.0.113.1>192.0.2.9:1029>53
			udp in 10.0.0.3 6 192.0.2.9 53 = 9
			tcp in 10.0.0.3 6 192.0.2.9 53 2 = 0 600:203.0.113.1>192.0.2.9:1024>53
			binds = binds 10.0.0.1:1030>203.0.113.1:1030 10.0.0.2:1030>203.0.113.1:1024 10.0.0.3:1023>203.0.113.1:1025 10.0.0.3:1032>203.0.113.1:1026 10.0.0.3:1031>203.0.113.1:1031 10.0.0.3:0>203.0.113.1:1028 10.0.0.3:2>203.0.113.1:1027 10.0.0.3:4>203.0.113.1:1029 10.0.0.3:6>203.0.113.1:1024`},
		{"by an end of the pool", `
			route 10.0.0.0 8 7 = ok
			route 0.0.0.0 0 600 = ok
			udp in 10.0.0.1 5 203.0.113.1 1027 = 6
			udp in 10.0.0.1 5 203.0.113.1 1025 = 0 7:203.0.113.1>10.0.0.1:1025>5
			udp in 10.0.0.2 5 203.0.113.1 1025 = 0 7:203.0.113.1>10.0.0.1:1027>5
			udp in 10.0.0.1 5 203.0.113.1 1027 = 0 7:203.0.113.1>10.0.0.2:1025>5
			tcp in 10.0.0.1 5 203.0.113.1 1025 2 = 0 7:203.0.113.1>10.0.0.1:1025>5
			binds = binds 10.0.0.1:5>203.0.113.1:1025 10.0.0.2:5>203.0.113.1:1027 10.0.0.1:5>203.0.113.1:1025`},
		{"from a host that no route leads to", `
			route 192.0.2.0 24 600 = ok
			udp in 10.0.0.1 5 192.0.2.9 53 = 0 600:203.0.113.1>192.0.2.9:1025>53
			udp out 192.0.2.9 53 203.0.113.1 1025 = 6
			route 10.0.0.0 8 501 = ok
			udp out 192.0.2.9 53 203.0.113.1 1025 = 6
			route 10.0.0.0 8 500 = ok
			udp out 192.0.2.9 53 203.0.113.1 1025 = 0 500:192.0.2.9>10.0.0.1:53>5`},
	}
}

func sixCases() []deskCase {
	return []deskCase{
		{"from six to four, and back", `
			route 2001:db8:: 32 9 = ok
			route 0.0.0.0 0 600 = ok
			udp in 2001:db8::5 40000 64:ff9b::c000:209 53 = 0 600:203.0.113.1>192.0.2.9:1024>53
			udp out 192.0.2.9 53 203.0.113.1 1024 = 0 9:64:ff9b::c000:209>2001:db8::5:53>40000
			udp out 192.0.2.8 53 203.0.113.1 1024 = 6
			tcp in 2001:db8::5 40000 64:ff9b::c000:209 80 2 = 0 600:203.0.113.1>192.0.2.9:1024>80
			tcp out 192.0.2.9 80 203.0.113.1 1024 18 = 0 9:64:ff9b::c000:209>2001:db8::5:80>40000
			binds = binds 2001:db8::5:40000>203.0.113.1:1024 2001:db8::5:40000>203.0.113.1:1024`},
		{"binds that are kept of packets that go nowhere", `
			route 10.0.0.0 8 7 = ok
			udp in 2001:db8::5 1 64:ff9b::cb00:7101 1025 = 11
			udp in 2001:db8::5 2 64:ff9b::a00:1 5 = 6
			udp in 2001:db8::5 3 64:ff9b::c000:209 5 = 6
			udp in 2001:db8::5 4 64:ff9b::1:0:c000:209 5 = 6
			binds = binds 2001:db8::5:1>203.0.113.1:1025 2001:db8::5:2>203.0.113.1:1024 2001:db8::5:3>203.0.113.1:1027`},
		{"from six to six", `
			route 2001:db8:: 32 9 = ok
			route 3000:: 16 700 = ok
			udp in 2001:db8::5 1 2001:db8::6 2 = 0 9:2001:db8::5>2001:db8::6:1>2
			udp in 2001:db8::5 1 3000::1 2 = 0 700:2001:db8::5>3000::1:1>2
			udp out 3000::1 1 2001:db8::6 2 = 0 9:3000::1>2001:db8::6:1>2
			tcp out 3000::1 1 2001:db8::6 2 0 = 0 9:3000::1>2001:db8::6:1>2
			tcp in 2001:db8::6 1 2001:db8::5 2 255 = 0 9:2001:db8::6>2001:db8::5:1>2
			udp out 3000::1 1 3000::2 2 = 11
			udp out 3000::1 1 64:ff9b::c000:209 2 = 6 700:2001:db8::1>3000::1
			udp in :: 0 :: 0 = 6
			udp in ff02::1 0 :: 0 = 6
			route :: 0 701 = ok
			udp in :: 0 ::ffff:102:304 65535 = 0 701:::>::ffff:102:304:0>65535
			binds = binds`},
	}
}

func lifeCases() []deskCase {
	return []deskCase{
		{"ticks", `
			tick 0 = tick 0
			tick 3 = tick 3
			tick 0 = tick 3
			tick 999999996 = tick 999999999
			tick 2 = tick 999999999
			tick 999999999 = tick 999999999
			tick 1 = tick 1000000000
			tick 1 = tick 1000000000
			tick 0 = tick 1000000000
			tick 999999999 = tick 1000000000
			route 0.0.0.0 0 600 = ok
			udp in 10.0.0.1 5 192.0.2.9 53 = 0 600:203.0.113.1>192.0.2.9:1025>53
			binds = binds 10.0.0.1:5>203.0.113.1:1025`},
		{"the greatest tick at once", `
			route 0.0.0.0 0 600 = ok
			udp in 10.0.0.1 5 192.0.2.9 53 = 0 600:203.0.113.1>192.0.2.9:1025>53
			tick 999999999 = tick 999999999
			binds = binds`},
		{"the life of udp", `
			route 10.0.0.0 8 7 = ok
			route 0.0.0.0 0 600 = ok
			udp in 10.0.0.1 5 192.0.2.9 53 = 0 600:203.0.113.1>192.0.2.9:1025>53
			tick 29 = tick 29
			binds = binds 10.0.0.1:5>203.0.113.1:1025
			udp out 192.0.2.9 53 203.0.113.1 1025 = 0 7:192.0.2.9>10.0.0.1:53>5
			tick 29 = tick 58
			binds = binds 10.0.0.1:5>203.0.113.1:1025
			tick 1 = tick 59
			binds = binds
			udp out 192.0.2.9 53 203.0.113.1 1025 = 6`},
		{"a connection that nobody answers", `
			route 10.0.0.0 8 7 = ok
			route 0.0.0.0 0 600 = ok
			tcp in 10.0.0.1 5 192.0.2.9 80 2 = 0 600:203.0.113.1>192.0.2.9:1025>80
			tick 4 = tick 4
			binds = binds 10.0.0.1:5>203.0.113.1:1025
			tick 1 = tick 5
			binds = binds
			tcp out 192.0.2.9 80 203.0.113.1 1025 18 = 6`},
		{"a connection that is answered, and ended", `
			route 10.0.0.0 8 7 = ok
			route 0.0.0.0 0 600 = ok
			tcp in 10.0.0.1 5 192.0.2.9 80 2 = 0 600:203.0.113.1>192.0.2.9:1025>80
			tick 4 = tick 4
			tcp out 192.0.2.9 80 203.0.113.1 1025 18 = 0 7:192.0.2.9>10.0.0.1:80>5
			tick 99 = tick 103
			tcp in 10.0.0.1 5 192.0.2.9 80 17 = 0 600:203.0.113.1>192.0.2.9:1025>80
			tick 99 = tick 202
			tcp out 192.0.2.9 80 203.0.113.1 1025 17 = 0 7:192.0.2.9>10.0.0.1:80>5
			tick 7 = tick 209
			binds = binds 10.0.0.1:5>203.0.113.1:1025
			tick 1 = tick 210
			binds = binds`},
		{"a connection that is reset", `
			route 0.0.0.0 0 600 = ok
			tcp in 10.0.0.1 5 192.0.2.9 80 2 = 0 600:203.0.113.1>192.0.2.9:1025>80
			tcp in 10.0.0.1 5 192.0.2.9 80 4 = 0 600:203.0.113.1>192.0.2.9:1025>80
			tick 7 = tick 7
			binds = binds 10.0.0.1:5>203.0.113.1:1025
			tick 1 = tick 8
			binds = binds`},
		{"connections from a known peer", `
			route 10.0.0.0 8 7 = ok
			route 0.0.0.0 0 600 = ok
			tcp in 10.0.0.1 5 192.0.2.9 80 2 = 0 600:203.0.113.1>192.0.2.9:1025>80
			tcp out 192.0.2.9 81 203.0.113.1 1025 18 = 6
			tcp out 192.0.2.9 81 203.0.113.1 1025 2 = 0 7:192.0.2.9>10.0.0.1:81>5
			tcp out 192.0.2.8 81 203.0.113.1 1025 2 = 6`},
	}
}

func limitCases() []deskCase {
	cases := []deskCase{
		{"ports at and beside their limits", `
			route 0.0.0.0 0 600 = ok
			udp in 10.0.0.1 0 192.0.2.9 65535 = 0 600:203.0.113.1>192.0.2.9:1024>65535
			udp in 10.0.0.1 65535 192.0.2.9 0 = 0 600:203.0.113.1>192.0.2.9:1025>0
			udp in 10.0.0.1 65536 192.0.2.9 0 = error 1
			udp in 10.0.0.1 0 192.0.2.9 65536 = error 1
			udp out 192.0.2.9 999999999 203.0.113.1 1024 = error 1
			udp out 192.0.2.9 65535 203.0.113.1 66560 = error 1
			tcp in 10.0.0.1 65535 192.0.2.9 65535 2 = 0 600:203.0.113.1>192.0.2.9:1025>65535
			tcp in 10.0.0.1 65536 192.0.2.9 65535 2 = error 1
			tcp in 10.0.0.1 65535 192.0.2.9 65536 2 = error 1
			tcp in 10.0.0.1 65537 192.0.2.9 1 256 = error 1
			udp in 2001:db8::5 65536 64:ff9b::c000:209 1 = error 1
			udp in 2001:db8::5 1 64:ff9b::c000:209 999999999 = error 1
			tcp out 2001:db8::5 1 2001:db8::6 65536 1 = error 1
			binds = binds 10.0.0.1:0>203.0.113.1:1024 10.0.0.1:65535>203.0.113.1:1025 10.0.0.1:65535>203.0.113.1:1025`},
		{"flags at and beside their limits", `
			route 0.0.0.0 0 600 = ok
			tcp in 10.0.0.1 5 192.0.2.9 80 0 = 6
			tcp in 10.0.0.1 5 192.0.2.9 80 255 = 6
			tcp in 10.0.0.1 5 192.0.2.9 80 256 = error 1
			tcp in 10.0.0.1 5 192.0.2.9 80 258 = error 1
			tcp in 10.0.0.1 5 192.0.2.9 80 999999999 = error 1
			tcp in 2001:db8::5 5 2001:db8::6 80 256 = error 1
			binds = binds
			tcp in 10.0.0.1 5 192.0.2.9 80 235 = 0 600:203.0.113.1>192.0.2.9:1025>80`},
		{"addresses that are not of one kind", `
			route 0.0.0.0 0 600 = ok
			route :: 0 601 = ok
			udp in 10.0.0.1 5 ::1 53 = error 1
			udp in ::1 5 10.0.0.1 53 = error 1
			udp out 10.0.0.1 5 64:ff9b::c000:209 53 = error 1
			tcp in 10.0.0.1 5 ::1 53 2 = error 1
			tcp out ::1 5 10.0.0.1 53 2 = error 1
			udp in 10.0.0.1 65536 ::1 53 = error 1
			binds = binds`},
	}
	most := deskCase{what: "as many sessions as there may be", lines: "route 0.0.0.0 0 600 = ok\n"}
	for port := range 23 {
		tells := fmt.Sprintf("0 600:203.0.113.1>192.0.2.9:1025>%d", port)
		if port >= 20 {
			tells = "9"
		}
		most.lines += fmt.Sprintf("udp in 10.0.0.1 5 192.0.2.9 %d = %s\n", port, tells)
	}
	most.lines += "binds = binds 10.0.0.1:5>203.0.113.1:1025"
	return append(cases, most)
}

// Promise 25, of texts whose lines tell what is written beside them.
func TestDeskByHand(t *testing.T) {
	for _, c := range deskCases() {
		text, told := c.split()
		wantDeskOut(t, c.what, impl.DeskRun(text), impl.DeskOut{Text: told})
		deskRuns(t, c.what, text)
		var counts []int
		for count := range strings.Count(text, "\n") + 1 {
			counts = append(counts, count)
		}
		wantOneByOne(t, c.what, text, counts...)
	}
}

// A desk knows nothing of the one ahead of it.
func TestDeskKeepsNothing(t *testing.T) {
	told := map[string]impl.DeskOut{}
	for range 2 {
		for _, c := range deskCases() {
			text, _ := c.split()
			out := impl.DeskRun(text)
			if before, met := told[text]; met {
				wantDeskOut(t, c.what+", once more", out, before)
			}
			told[text] = out
			wantDeskOut(t, "binds of a new desk", impl.DeskRun("binds\n"), impl.DeskOut{Text: "binds\n"})
			wantDeskOut(t, "a time of a new desk", impl.DeskRun("tick 1\n"), impl.DeskOut{Text: "tick 1\n"})
			wantDeskOut(t, "routes of a new desk", impl.DeskRun("udp in 10.0.0.1 5 10.0.0.2 6\n"), impl.DeskOut{Text: "6\n"})
		}
	}
}

func TestDeskWords(t *testing.T) {
	want := []string{"binds", "route", "tcp", "tick", "udp"}
	first, second := impl.DeskWords(), impl.DeskWords()
	for _, words := range [][]string{first, second} {
		if !slices.Equal(words, want) {
			t.Errorf("got the words %q, want %q", words, want)
		}
	}
	spoil(first)
	if !slices.Equal(second, want) || !slices.Equal(impl.DeskWords(), want) {
		t.Errorf("a list of words spoilt another one")
	}
	// Each begins some line, and no other word of these texts does.
	begin := map[string]bool{}
	for _, c := range deskCases() {
		text, _ := c.split()
		for _, line := range strings.Split(strings.TrimSuffix(text, "\n"), "\n") {
			word, _, _ := strings.Cut(line, " ")
			begin[word] = true
			wantAnswer(t, "a word of a right line", slices.Contains(impl.DeskWords(), word), true)
		}
	}
	wantNumber(t, "words that begin lines", int64(len(begin)), 5)
	wantDeskOut(t, "words spoilt", impl.DeskRun("tick 1\nbinds\n"), impl.DeskOut{Text: "tick 1\nbinds\n"})
}
