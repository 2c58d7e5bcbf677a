package msg_test

import (
	"bytes"
	"fmt"
	"math"
	"slices"
	"testing"

	"weirbox/api"
	"weirbox/flowmod"
	"weirbox/groupmod"
	"weirbox/msg"
)

// number is n in so many bytes, the highest first.
func number(n, size int) []byte {
	var b []byte
	for k := size - 1; k >= 0; k-- {
		b = append(b, byte(n>>(8*k)))
	}
	return b
}

// count is n bytes that are all told from those next to them.
func count(n int) []byte {
	b := make([]byte, n)
	for i := range b {
		b[i] = byte(1 + i%251)
	}
	return b
}

// laid is the bytes of a message that says as many as it has.
func laid(kind, xid int, body ...byte) []byte {
	return slices.Concat([]byte{4, byte(kind)}, number(8+len(body), 2), number(xid, 4), body)
}

// flowBody is the bytes of flow, without a second reckoning.
func flowBody() []byte {
	return []byte{1, 2, 3, 4, 5, 6, 7, 8, 0x11, 0x12, 0x13, 0x14, 0x15, 0x16, 0x17, 0x18,
		0x21, 1, 0x22, 0x23, 0x24, 0x25, 0x26, 0x27, 0x31, 0x32, 0x33, 0x34, 0x41, 0x42, 0x43, 0x44, 0x51, 0x52, 0x53, 0x54, 0, 0x1F, 0, 0,
		0, 1, 0, 12, 0x80, 0, 0, 4, 0, 0, 0, 5, 0, 0, 0, 0,
		0, 4, 0, 32, 0, 0, 0, 0, 0, 18, 0, 8, 0, 0, 0, 0, 0, 0, 0, 16, 0, 0, 0, 2, 0, 0, 0, 0, 0, 0, 0, 0,
		0, 1, 0, 8, 2, 0, 0, 0}
}

// flow is a change with some of all that there is.
func flow() api.FlowMod {
	return api.FlowMod{Cookie: 0x0102030405060708, CookieMask: 0x1112131415161718, Table: 0x21, Command: 1, Idle: 0x2223, Hard: 0x2425, Priority: 0x2627,
		Buffer: 0x31323334, OutPort: 0x41424344, OutGroup: 0x51525354, Flags: 0x1F, Match: []api.Oxm{{Field: 0, Value: api.Wide{Lo: 5}}},
		Insts: []api.Inst{{Kind: 4, Acts: []api.Action{{Kind: 18}, {Port: 2}}}, {Kind: 1, Table: 2}}}
}

// groupBody is the bytes of group.
func groupBody() []byte {
	return []byte{0, 1, 3, 0, 1, 2, 3, 4, 0, 24, 0, 9, 0, 0, 0, 3, 255, 255, 255, 255, 0, 0, 0, 0, 0, 18, 0, 8, 0, 0, 0, 0, 0, 16, 0, 1, 0, 0, 0, 0, 0, 0, 0, 0, 0, 0, 0, 0}
}

// group is a change with some of all that there is.
func group() api.GroupMod {
	return api.GroupMod{Command: 1, Kind: 3, ID: 0x01020304, Buckets: []api.Bucket{{Weight: 9, Watch: 3, WatchGroup: api.GroupAny, Acts: []api.Action{{Kind: 18}}}, {Weight: 1}}}
}

// bareFlow and bareGroup are the bytes of changes that have nothing.
func bareFlow() []byte  { return append(make([]byte, 40), 0, 1, 0, 4, 0, 0, 0, 0) }
func bareGroup() []byte { return make([]byte, 8) }

// longest is a change of buckets of just 60000 bytes: 24 of 2416, one of 1992, one of 24.
func longest() api.GroupMod {
	set := api.Action{Kind: 25, Oxm: api.Oxm{Field: api.IPv6Src, Value: api.Wide{Hi: 1, Lo: 2}}}
	l := slices.Repeat([]api.Bucket{{Acts: slices.Repeat([]api.Action{set}, 100)}}, 24)
	return api.GroupMod{ID: 7, Buckets: append(l, api.Bucket{Acts: slices.Repeat([]api.Action{set}, 82)}, api.Bucket{Acts: []api.Action{{Kind: 18}}})}
}

// piece is a message with its bytes.
type piece struct {
	m api.Msg
	b []byte
}

// flows are changes of flows with their bytes.
func flows() []piece {
	all := []piece{{api.Msg{Flow: flow()}, flowBody()}, {api.Msg{}, bareFlow()}}
	for command := range 5 {
		f := flow()
		f.Command, f.Table, f.Priority = command, 255, 0
		f.Insts = []api.Inst{{Kind: 5}}
		b, _ := flowmod.Encode(f)
		all = append(all, piece{api.Msg{Flow: f}, b})
	}
	return all
}

// groups are changes of groups with their bytes.
func groups() []piece {
	all := []piece{{api.Msg{Group: group()}, groupBody()}, {api.Msg{}, bareGroup()}}
	long, _ := groupmod.Encode(longest())
	all = append(all, piece{api.Msg{Group: longest()}, long})
	for command := range 3 {
		for kind := range 4 {
			all = append(all, piece{api.Msg{Group: api.GroupMod{Command: command, Kind: kind, ID: api.GroupAny}}, []byte{0, byte(command), byte(kind), 0, 255, 255, 255, 255}})
		}
	}
	return all
}

// told are faults that may be told.
func told() []api.Fault {
	all := []api.Fault{{Is: true}, {Is: true, Type: 1, Code: 6}, {Is: true, Type: 6}, {Is: true, Type: 7, Code: 1}, {Is: true, Type: 65535, Code: 65535}, {Is: true, Type: 65535}, {Is: true, Code: 65535}}
	for i := range 16 {
		all = append(all, api.Fault{Is: true, Type: 1 << i, Code: 3}, api.Fault{Is: true, Type: 3, Code: 1 << i})
	}
	return all
}

// plain are the kinds that have Data alone.
func plain() []int { return []int{api.MsgHello, api.MsgEcho, api.MsgReply} }

// kinds are all that there are.
func kinds() []int { return []int{0, 1, 2, 3, 14, 15} }

// bodies are messages of Xid 0, each with the bytes behind its head.
func bodies() []piece {
	var all []piece
	for _, n := range []int{0, 1, 3, 4, 7, 8, 40, 63, 64, 65, 255, 256, 1000} {
		for _, kind := range plain() {
			all = append(all, piece{api.Msg{Kind: kind, Data: count(n)}, count(n)})
		}
		for _, f := range told() {
			all = append(all, piece{api.Msg{Kind: 1, Fault: f, Data: count(n)}, slices.Concat(number(f.Type, 2), number(f.Code, 2), count(n))})
		}
	}
	for _, one := range flows() {
		one.m.Kind = 14
		all = append(all, one)
	}
	for _, one := range groups() {
		one.m.Kind = 15
		all = append(all, one)
	}
	return all
}

// each is a message of each kind, with the bytes behind its head.
func each() []piece {
	f := api.Fault{Is: true, Type: 0x0102, Code: 0x0304}
	all := []piece{{api.Msg{Kind: 1, Fault: f, Data: count(9)}, append([]byte{1, 2, 3, 4}, count(9)...)}, {api.Msg{Kind: 14, Flow: flow()}, flowBody()}, {api.Msg{Kind: 15, Group: group()}, groupBody()}}
	for _, kind := range plain() {
		all = append(all, piece{api.Msg{Kind: kind, Data: count(9)}, count(9)})
	}
	return all
}

// text is all of m but its Data; a list that is nil and one that is empty are the same there.
func text(m api.Msg) string {
	m.Data = nil
	return fmt.Sprintf("%+v", m)
}

// equal holds messages together without the layer's own Same.
func equal(a, b api.Msg) bool { return bytes.Equal(a.Data, b.Data) && text(a) == text(b) }

// copied is m with lists of its own.
func copied(m api.Msg) api.Msg {
	m.Data = slices.Clone(m.Data)
	m.Flow.Match, m.Flow.Insts, m.Group.Buckets = slices.Clone(m.Flow.Match), slices.Clone(m.Flow.Insts), slices.Clone(m.Group.Buckets)
	for i := range m.Flow.Insts {
		m.Flow.Insts[i].Acts = slices.Clone(m.Flow.Insts[i].Acts)
	}
	for i := range m.Group.Buckets {
		m.Group.Buckets[i].Acts = slices.Clone(m.Group.Buckets[i].Acts)
	}
	return m
}

// short is what is told of a message, or of bytes, if a test fails.
func short(x any) string {
	all := fmt.Sprintf("%x", x)
	return all[:min(len(all), 300)]
}

func fault(kind, code int) api.Fault { return api.Fault{Is: true, Type: kind, Code: code} }

func taken(t *testing.T, m api.Msg, want []byte) {
	t.Helper()
	if !msg.Right(m) {
		t.Errorf("Right(%s): false", short(m))
	}
	if b, e := msg.Encode(m); e != api.OK || !bytes.Equal(b, want) {
		t.Errorf("Encode(%s): %s, %d, want %s", short(m), short(b), e, short(want))
	}
	if got, f := msg.Decode(want); f != (api.Fault{}) || !equal(got, m) || !msg.Same(got, m) || !msg.Same(m, got) {
		t.Errorf("Decode(%s): %s, %v, want %s", short(want), short(got), f, short(m))
	}
}

func notTaken(t *testing.T, m api.Msg) {
	t.Helper()
	if msg.Right(m) {
		t.Errorf("Right(%s): true", short(m))
	}
	if b, e := msg.Encode(m); e != api.ErrArg || len(b) != 0 {
		t.Errorf("Encode(%s): %s, %d", short(m), short(b), e)
	}
}

func refused(t *testing.T, b []byte, want api.Fault) {
	t.Helper()
	if m, f := msg.Decode(b); f != want || !equal(m, api.Msg{}) {
		t.Errorf("Decode(%s), %d bytes: %s, %v, want %v", short(b), len(b), short(m), f, want)
	}
}

func TestSpelt(t *testing.T) { // P20.1: told without a second reckoning, and api's numbers by name
	for _, one := range []piece{
		{api.Msg{}, []byte{4, 0, 0, 8, 0, 0, 0, 0}},
		{api.Msg{Kind: api.MsgHello, Xid: 7}, []byte{4, 0, 0, 8, 0, 0, 0, 7}},
		{api.Msg{Kind: api.MsgHello, Xid: 0x01020304, Data: []byte{5, 6}}, []byte{4, 0, 0, 10, 1, 2, 3, 4, 5, 6}},
		{api.Msg{Kind: api.MsgError, Xid: 3, Fault: fault(1, 2), Data: []byte{8}}, []byte{4, 1, 0, 13, 0, 0, 0, 3, 0, 1, 0, 2, 8}},
		{api.Msg{Kind: api.MsgError, Xid: 1 << 31, Fault: fault(0, 0)}, []byte{4, 1, 0, 12, 128, 0, 0, 0, 0, 0, 0, 0}},
		{api.Msg{Kind: api.MsgError, Xid: 0xFFFFFFFF, Fault: fault(0xFFFE, 0xFDFC)}, []byte{4, 1, 0, 12, 255, 255, 255, 255, 0xFF, 0xFE, 0xFD, 0xFC}},
		{api.Msg{Kind: api.MsgEcho, Xid: 7, Data: []byte{0}}, []byte{4, 2, 0, 9, 0, 0, 0, 7, 0}},
		{api.Msg{Kind: api.MsgReply, Xid: 7, Data: []byte{4, 2, 0, 8, 0, 0, 0, 7}}, []byte{4, 3, 0, 16, 0, 0, 0, 7, 4, 2, 0, 8, 0, 0, 0, 7}},
		{api.Msg{Kind: api.MsgFlow, Xid: 9, Flow: flow()}, append([]byte{4, 14, 0, 104, 0, 0, 0, 9}, flowBody()...)},
		{api.Msg{Kind: api.MsgFlow}, append([]byte{4, 14, 0, 56, 0, 0, 0, 0}, bareFlow()...)},
		{api.Msg{Kind: api.MsgGroup, Xid: 9, Group: group()}, append([]byte{4, 15, 0, 56, 0, 0, 0, 9}, groupBody()...)},
		{api.Msg{Kind: api.MsgGroup}, []byte{4, 15, 0, 16, 0, 0, 0, 0, 0, 0, 0, 0, 0, 0, 0, 0}},
	} {
		taken(t, one.m, one.b)
	}
}

func TestBothWays(t *testing.T) { // P20.1, P20.2
	for _, one := range bodies() {
		for _, xid := range []int{0, 1, 0x01020304, 0xFFFFFFFF} {
			one.m.Xid = xid
			taken(t, one.m, laid(one.m.Kind, xid, one.b...))
		}
	}
}

func TestXids(t *testing.T) { // P20.1: each bit, the least and the greatest, and those beyond
	for _, one := range each() {
		for i := range 32 {
			one.m.Xid = 1 << i
			taken(t, one.m, laid(one.m.Kind, 1<<i, one.b...))
		}
		for _, xid := range []int{0, 1, 255, 65535, 65536, 1<<31 - 1, 1 << 31, 0xFFFFFFFE, 0xFFFFFFFF} {
			one.m.Xid = xid
			taken(t, one.m, laid(one.m.Kind, xid, one.b...))
		}
		for _, xid := range []int{math.MinInt, math.MinInt + 7, -1 << 32, -65536, -2, -1, 1 << 32, 1<<32 + 1, 1<<32 + 7, 1 << 40, math.MaxInt} {
			one.m.Xid = xid
			notTaken(t, one.m)
			bare := api.Msg{Kind: one.m.Kind, Xid: xid, Fault: one.m.Fault}
			notTaken(t, bare)
		}
	}
}

func TestKinds(t *testing.T) { // P20.1: each, one beyond either end, those between, and further
	for n := range 256 {
		if slices.Contains(kinds(), n) {
			continue
		}
		for _, one := range append(each(), piece{}) {
			refused(t, laid(n, 7, one.b...), fault(1, 1))
		}
	}
	all := []int{math.MinInt, -1 << 32, -65536, -256, -242, -15, -14, -2, -1, 255, 256, 257, 258, 259, 270, 271, 65536, 65550, 1 << 32, 1<<32 + 1, 1<<32 + 14, 1<<32 + 15, math.MaxInt}
	for n := range 256 {
		if !slices.Contains(kinds(), n) {
			all = append(all, n)
		}
	}
	for _, n := range all {
		notTaken(t, api.Msg{Kind: n})
		notTaken(t, api.Msg{Kind: n, Data: count(3)})
		for _, one := range each() {
			one.m.Kind = n
			notTaken(t, one.m)
		}
	}
}

func TestKindsAreApart(t *testing.T) { // P20.1: what one Kind has is none of another one's
	for _, one := range each() {
		for _, kind := range kinds() {
			m := one.m
			m.Kind = kind
			if slices.Contains(plain(), kind) && slices.Contains(plain(), one.m.Kind) || kind == one.m.Kind {
				taken(t, m, laid(kind, 0, one.b...))
			} else {
				notTaken(t, m)
			}
		}
	}
}

// dataOf is the messages that have such Data, with the bytes behind their heads.
func dataOf(d []byte) []piece {
	all := []piece{{api.Msg{Kind: 1, Fault: fault(65535, 1), Data: d}, append([]byte{255, 255, 0, 1}, d...)}}
	for _, kind := range plain() {
		all = append(all, piece{api.Msg{Kind: kind, Data: d}, d})
	}
	return all
}

func TestData(t *testing.T) { // P20.1: 60000 bytes, and 60001, both ways
	for _, n := range []int{0, 1, 247, 248, 255, 256, 32767, 32768, 59995, 59996, 59997, 59999, 60000} {
		for _, one := range dataOf(count(n)) {
			taken(t, one.m, laid(one.m.Kind, 0, one.b...))
		}
	}
	for _, n := range []int{60001, 60002, 60004, 60005, 65000, 65515, 65523, 65524, 65527, 65528, 65535, 65536, 125536, 131072, 1000000} {
		for _, one := range dataOf(count(n)) {
			notTaken(t, one.m)
			if len(one.b) <= 65527 {
				refused(t, laid(one.m.Kind, 0, one.b...), fault(1, 6))
			}
		}
	}
}

func TestFaults(t *testing.T) { // P20.1: a MsgError whose Fault is none, or doesn't fit
	wrong := []int{math.MinInt, -1 << 32, -65536, -65535, -2, -1, 65536, 65537, 131072, 1 << 32, 1<<32 + 1, math.MaxInt}
	for _, d := range [][]byte{nil, count(8), count(60000)} {
		for _, n := range wrong {
			for _, other := range append([]int{0, 1, 65535}, wrong...) {
				notTaken(t, api.Msg{Kind: 1, Fault: fault(n, other), Data: d})
				notTaken(t, api.Msg{Kind: 1, Fault: fault(other, n), Data: d})
			}
		}
		for _, f := range told() {
			taken(t, api.Msg{Kind: 1, Fault: f, Data: d}, laid(1, 0, slices.Concat(number(f.Type, 2), number(f.Code, 2), d)...))
			f.Is = false
			notTaken(t, api.Msg{Kind: 1, Fault: f, Data: d})
		}
		notTaken(t, api.Msg{Kind: 1, Data: d})
	}
}

// change is of something that a message has.
type change struct {
	name string
	do   func(m *api.Msg)
}

// changesOfFlow are of each thing that a change of flows has, each so that it may be still.
func changesOfFlow() []change {
	return []change{
		{"Cookie", func(m *api.Msg) { m.Flow.Cookie ^= 1 << 63 }},
		{"CookieMask", func(m *api.Msg) { m.Flow.CookieMask ^= 1 }},
		{"Table", func(m *api.Msg) { m.Flow.Table++ }},
		{"Command", func(m *api.Msg) { m.Flow.Command++ }},
		{"Idle", func(m *api.Msg) { m.Flow.Idle++ }},
		{"Hard", func(m *api.Msg) { m.Flow.Hard++ }},
		{"Priority", func(m *api.Msg) { m.Flow.Priority++ }},
		{"Buffer", func(m *api.Msg) { m.Flow.Buffer++ }},
		{"OutPort", func(m *api.Msg) { m.Flow.OutPort++ }},
		{"OutGroup", func(m *api.Msg) { m.Flow.OutGroup++ }},
		{"Flags", func(m *api.Msg) { m.Flow.Flags ^= 2 }},
		{"Match", func(m *api.Msg) { m.Flow.Match = append(m.Flow.Match, api.Oxm{Field: 2}) }},
		{"Insts", func(m *api.Msg) { m.Flow.Insts = append(m.Flow.Insts, api.Inst{Kind: 5}) }},
	}
}

// changesOfGroup are of each thing that a change of groups has, each so that it may be still.
func changesOfGroup() []change {
	return []change{
		{"Command of Group", func(m *api.Msg) { m.Group.Command++ }},
		{"Kind of Group", func(m *api.Msg) { m.Group.Kind ^= 1 }},
		{"ID", func(m *api.Msg) { m.Group.ID++ }},
		{"Buckets", func(m *api.Msg) { m.Group.Buckets = append(m.Group.Buckets, api.Bucket{}) }},
	}
}

func changesOfFault() []change {
	return []change{
		{"Is", func(m *api.Msg) { m.Fault.Is = !m.Fault.Is }},
		{"Type", func(m *api.Msg) { m.Fault.Type++ }},
		{"Code", func(m *api.Msg) { m.Fault.Code++ }},
	}
}

func changesOfData() []change {
	return []change{{"Data", func(m *api.Msg) { m.Data = append(m.Data, 0) }}}
}

// foreign are changes of what a Kind has not.
func foreign(kind int) []change {
	switch kind {
	case api.MsgFlow:
		return slices.Concat(changesOfGroup(), changesOfFault(), changesOfData())
	case api.MsgGroup:
		return slices.Concat(changesOfFlow(), changesOfFault(), changesOfData())
	case api.MsgError:
		return slices.Concat(changesOfFlow(), changesOfGroup())
	}
	return slices.Concat(changesOfFlow(), changesOfGroup(), changesOfFault())
}

func TestFieldsThatAKindHasNot(t *testing.T) { // P20.1: each of them alone, and several; set to what may be elsewhere, and to what may not
	for _, one := range append(bodies(), each()...) {
		for _, c := range foreign(one.m.Kind) {
			m := copied(one.m)
			c.do(&m)
			if equal(m, one.m) {
				t.Fatalf("%s: nothing is changed", c.name)
			}
			notTaken(t, m)
		}
		for _, f := range []api.FlowMod{flow(), {Table: -1}, {Command: 9}, {Match: make([]api.Oxm, 1)}, {Insts: make([]api.Inst, 1)}} {
			if m := one.m; m.Kind != api.MsgFlow {
				m.Flow = f
				notTaken(t, m)
			}
		}
		for _, g := range []api.GroupMod{group(), {ID: -1}, {Kind: 9}, {Buckets: make([]api.Bucket, 101)}} {
			if m := one.m; m.Kind != api.MsgGroup {
				m.Group = g
				notTaken(t, m)
			}
		}
		for _, f := range []api.Fault{fault(1, 6), fault(0, 0), {Type: -1}, {Code: 1 << 16}} {
			if m := one.m; m.Kind != api.MsgError {
				m.Fault = f
				notTaken(t, m)
			}
		}
	}
}

func TestEmptyListsAreNone(t *testing.T) { // R5: whatever the Kind
	for _, one := range each() {
		m := one.m
		if len(m.Data) == 0 {
			m.Data = []byte{}
		}
		if m.Kind != 14 {
			m.Flow.Match, m.Flow.Insts = []api.Oxm{}, []api.Inst{}
		}
		if m.Kind != 15 {
			m.Group.Buckets = make([]api.Bucket, 0, 5)
		}
		taken(t, m, laid(m.Kind, 0, one.b...))
		if !msg.Same(m, one.m) || !msg.Same(one.m, m) {
			t.Errorf("an empty list isn't the same as none: kind %d", m.Kind)
		}
	}
	for _, kind := range plain() {
		taken(t, api.Msg{Kind: kind, Data: []byte{}}, laid(kind, 0))
		taken(t, api.Msg{Kind: kind}, laid(kind, 0))
	}
}

// wrongFlows are changes that their layer refuses.
func wrongFlows() []api.FlowMod {
	in := []api.Oxm{{Field: 0, Value: api.Wide{Lo: 1}}}
	all := []api.FlowMod{{Command: -1}, {Command: 5}, {Command: 256}, {Flags: -1}, {Flags: 32}, {Table: -1}, {Table: 256}, {Idle: -1}, {Idle: 65536}, {Hard: -1}, {Hard: 65536}, {Priority: -1}, {Priority: 65536},
		{Buffer: -1}, {Buffer: 1 << 32}, {OutPort: -1}, {OutPort: 1 << 32}, {OutGroup: -1}, {OutGroup: 1 << 32}, {Match: append(in, in...)}, {Match: []api.Oxm{{Field: api.TCPSrc}}}, {Match: []api.Oxm{{Field: 24}}},
		{Insts: []api.Inst{{}}}, {Insts: []api.Inst{{Kind: 1, Table: 255}}}, {Insts: []api.Inst{{Kind: 5}, {Kind: 5}}}, {Insts: []api.Inst{{Kind: 4, Acts: make([]api.Action, 1)}}},
		{Insts: []api.Inst{{Kind: 4, Acts: []api.Action{{Kind: 25, Oxm: api.Oxm{Field: api.TCPSrc}}}}}}}
	return all
}

// wrongGroups are changes that their layer refuses.
func wrongGroups() []api.GroupMod {
	return []api.GroupMod{{Command: -1}, {Command: 3}, {Command: 65536}, {Kind: -1}, {Kind: 4}, {Kind: 256}, {ID: -1}, {ID: 1 << 32}, {Buckets: make([]api.Bucket, 101)}, {Buckets: []api.Bucket{{Weight: -1}}},
		{Buckets: []api.Bucket{{Watch: 1 << 32}}}, {Buckets: []api.Bucket{{}, {Acts: make([]api.Action, 1)}}}, {Buckets: append(longest().Buckets, api.Bucket{})}}
}

// bad are bytes behind a head that something refuses, with why.
type bad struct {
	b    []byte
	want api.Fault
}

// with is b with a byte in the place at.
func with(b []byte, at int, x byte) []byte {
	b = slices.Clone(b)
	b[at] = x
	return b
}

// badFlows are bytes that flowmod refuses: of each type that there is.
func badFlows() []bad {
	set := slices.Concat([]byte{0, 4, 0, 24, 0, 0, 0, 0}, []byte{0, 25, 0, 16, 0x80, 0, 26, 2, 0, 1, 0, 0, 0, 0, 0, 0})
	return []bad{
		{nil, fault(1, 6)},
		{make([]byte, 39), fault(1, 6)},
		{make([]byte, 40), fault(4, 1)},
		{with(bareFlow(), 38, 1), fault(1, 6)},
		{with(bareFlow(), 39, 1), fault(1, 6)},
		{with(bareFlow(), 41, 2), fault(4, 0)},
		{with(bareFlow(), 43, 3), fault(4, 1)},
		{with(bareFlow(), 47, 1), fault(4, 1)},
		{with(bareFlow(), 17, 5), fault(5, 6)},
		{with(bareFlow(), 37, 32), fault(5, 7)},
		{append(bareFlow(), 0), fault(3, 7)},
		{append(bareFlow(), 0, 7, 0, 8, 0, 0, 0, 0), fault(3, 0)},
		{append(bareFlow(), 0, 1, 0, 8, 255, 0, 0, 0), fault(3, 2)},
		{append(bareFlow(), set...), fault(2, 10)},
		{with(flowBody(), len(flowBody())-5, 16), fault(3, 7)},
	}
}

// badGroups are bytes that groupmod refuses.
func badGroups() []bad {
	return []bad{
		{nil, fault(1, 6)},
		{make([]byte, 7), fault(1, 6)},
		{with(bareGroup(), 3, 1), fault(1, 6)},
		{with(bareGroup(), 1, 3), fault(6, 11)},
		{with(bareGroup(), 2, 4), fault(6, 10)},
		{append(bareGroup(), 0), fault(6, 12)},
		{append(bareGroup(), make([]byte, 60001)...), fault(6, 12)},
		{append(bareGroup(), bytes.Repeat([]byte{0, 16, 0, 0, 0, 0, 0, 0, 0, 0, 0, 0, 0, 0, 0, 0}, 101)...), fault(6, 4)},
		{with(groupBody(), 33, 19), fault(6, 12)},
		{with(groupBody(), 25, 19), fault(2, 0)},
	}
}

func TestChangesRefused(t *testing.T) { // P20.1: both ways
	for _, f := range wrongFlows() {
		if flowmod.Right(f) {
			t.Fatalf("a change that may be: %v", f)
		}
		for _, xid := range []int{0, 0xFFFFFFFF} {
			notTaken(t, api.Msg{Kind: 14, Xid: xid, Flow: f})
		}
	}
	for _, g := range wrongGroups() {
		if groupmod.Right(g) {
			t.Fatalf("a change that may be: %v", g)
		}
		for _, xid := range []int{0, 0xFFFFFFFF} {
			notTaken(t, api.Msg{Kind: 15, Xid: xid, Group: g})
		}
	}
	for _, one := range badFlows() {
		refused(t, laid(14, 5, one.b...), one.want)
	}
	for _, one := range badGroups() {
		refused(t, laid(15, 5, one.b...), one.want)
	}
	// No more is asked of a change than its layer does: not what a switch has.
	f, g := api.FlowMod{Table: 200}, api.GroupMod{ID: api.GroupAny, Kind: api.KindIndirect, Buckets: make([]api.Bucket, 100)}
	taken(t, api.Msg{Kind: 14, Flow: f}, laid(14, 0, with(bareFlow(), 16, 200)...))
	taken(t, api.Msg{Kind: 15, Group: g}, laid(15, 0, append([]byte{0, 0, 2, 0, 255, 255, 255, 255}, bytes.Repeat([]byte{0, 16, 0, 0, 0, 0, 0, 0, 0, 0, 0, 0, 0, 0, 0, 0}, 100)...)...))
}

func TestShort(t *testing.T) { // P20.1: fewer than 8 bytes, 8, and more
	refused(t, nil, fault(1, 6))
	for n := range 8 {
		for _, b := range [][]byte{laid(0, 7), laid(2, 0xFFFFFFFF, 1, 2, 3), {9, 9, 9, 9, 9, 9, 9, 9}, {4, 0, 0, byte(n), 0, 0, 0, 0}, {4, 7, 0, byte(n), 0, 0, 0, 0}} {
			refused(t, b[:n], fault(1, 6)) // what stands in the spare room doesn't count
			refused(t, b[:n:n], fault(1, 6))
		}
	}
	for n := 8; n < 100; n++ {
		taken(t, api.Msg{Kind: 2, Xid: 9, Data: count(n - 8)}, laid(2, 9, count(n-8)...))
	}
}

func TestVersion(t *testing.T) { // P20.1: each first byte that isn't one
	for n := range 256 {
		if n == api.Version {
			continue
		}
		for _, one := range append(each(), piece{}) {
			refused(t, with(laid(one.m.Kind, 7, one.b...), 0, byte(n)), fault(1, 0))
		}
	}
}

// says is b with the length that it tells.
func says(b []byte, length int) []byte {
	b = slices.Clone(b)
	copy(b[2:], number(length, 2))
	return b
}

func TestLength(t *testing.T) { // P20.1: one less and one more than the bytes, and all others
	for _, one := range append(bodies(), dataOf(count(60000))...) {
		b := laid(one.m.Kind, 1, one.b...)
		for _, n := range []int{0, 1, 7, len(b) - 8, len(b) - 4, len(b) - 1, len(b) + 1, len(b) + 8, 65535} {
			if n != len(b) {
				refused(t, says(b, n), fault(1, 6))
			}
		}
		refused(t, b[:len(b)-1], fault(1, 6))
		refused(t, append(slices.Clone(b), 0), fault(1, 6))
		refused(t, append(slices.Clone(b), b...), fault(1, 6))
	}
	for _, one := range append(each(), piece{}) {
		b := laid(one.m.Kind, 1, one.b...)
		for n := range 65536 {
			if n != len(b) {
				refused(t, says(b, n), fault(1, 6))
			}
		}
	}
	// As many bytes as no message can say.
	for _, n := range []int{65536, 65544, 65536 + 100, 131072 + 8} {
		for _, kind := range []byte{0, 1, 2, 9, 14, 15, 255} {
			b := make([]byte, n)
			copy(b, []byte{4, kind, byte(n >> 8), byte(n)})
			refused(t, b, fault(1, 6))
		}
	}
}

func TestErrorOfFewBytes(t *testing.T) { // P20.1: 8 to 12
	for n := 8; n < 12; n++ {
		for _, full := range [][]byte{{0, 0, 0, 0}, {0, 1, 0, 6}, {255, 255, 255, 255}} {
			refused(t, laid(1, 7, full[:n-8]...), fault(1, 6))
			b := laid(1, 7, full...)
			b[3] = byte(n)
			refused(t, b[:n], fault(1, 6)) // what stands in the spare room doesn't count
		}
	}
	taken(t, api.Msg{Kind: 1, Xid: 7, Fault: fault(0, 0)}, laid(1, 7, 0, 0, 0, 0))
	taken(t, api.Msg{Kind: 1, Xid: 7, Fault: fault(1, 6)}, laid(1, 7, 0, 1, 0, 6))
	taken(t, api.Msg{Kind: 1, Xid: 7, Fault: fault(65535, 65535), Data: []byte{0}}, laid(1, 7, 255, 255, 255, 255, 0))
}

func TestFirstOfTwoFaults(t *testing.T) { // P20.1, R1: fewer than 8, the first byte, the length, the kind, the body's
	refused(t, []byte{9, 9, 9, 9, 9, 9, 9}, fault(1, 6))
	all := append(badFlows(), badGroups()...)
	for i := range all {
		kind := 14
		if i >= len(badFlows()) {
			kind = 15
		}
		all[i].b = laid(kind, 7, all[i].b...)
	}
	for n := range 4 {
		all = append(all, bad{laid(1, 7, make([]byte, n)...), fault(1, 6)})
	}
	for _, one := range append(dataOf(count(60001)), dataOf(count(65000))...) {
		all = append(all, bad{laid(one.m.Kind, 7, one.b...), fault(1, 6)})
	}
	for _, one := range append(all, bad{laid(0, 7), api.Fault{}}, bad{laid(14, 7, flowBody()...), api.Fault{}}) {
		for _, version := range []byte{4, 0, 1, 5, 255} {
			for _, off := range []int{0, -1, 1} {
				for _, kind := range []byte{one.b[1], 4, 13, 16, 255} {
					b := says(one.b, len(one.b)+off)
					b[0], b[1] = version, kind
					want := one.want
					switch {
					case version != 4:
						want = fault(1, 0)
					case off != 0:
						want = fault(1, 6)
					case kind != one.b[1]:
						want = fault(1, 1)
					}
					if want.Is {
						refused(t, b, want)
					}
				}
			}
		}
	}
}

// changes are of each thing that a message has, each of its bits, and of what its lists have.
func changes() []change {
	all := slices.Concat(changesOfFlow(), changesOfGroup(), changesOfFault(), changesOfData())
	for i := range 64 {
		all = append(all,
			change{"Kind", func(m *api.Msg) { m.Kind ^= 1 << i }},
			change{"Xid", func(m *api.Msg) { m.Xid ^= 1 << i }},
			change{"Type", func(m *api.Msg) { m.Fault.Type ^= 1 << i }},
			change{"Code", func(m *api.Msg) { m.Fault.Code ^= 1 << i }},
			change{"Cookie", func(m *api.Msg) { m.Flow.Cookie ^= 1 << i }},
			change{"Priority", func(m *api.Msg) { m.Flow.Priority ^= 1 << i }},
			change{"ID", func(m *api.Msg) { m.Group.ID ^= 1 << i }})
	}
	return append(all,
		change{"Kind and Xid", func(m *api.Msg) { m.Kind, m.Xid = m.Xid+1, m.Kind }},
		change{"Type and Code", func(m *api.Msg) { m.Fault.Type, m.Fault.Code = m.Fault.Code+1, m.Fault.Type }},
		change{"Command of both", func(m *api.Msg) { m.Flow.Command++; m.Group.Command-- }},
		change{"all of Flow", func(m *api.Msg) { m.Flow = api.FlowMod{Hard: -7} }},
		change{"all of Group", func(m *api.Msg) { m.Group = api.GroupMod{ID: -7} }},
		change{"a byte ahead of Data", func(m *api.Msg) { m.Data = append([]byte{200}, m.Data...) }})
}

// changesWithin are of what m's lists have.
func changesWithin(m api.Msg) []change {
	var all []change
	for i := range m.Data {
		all = append(all, change{"a byte of Data", func(m *api.Msg) { m.Data[i] ^= 1 << (i % 8) }}, change{"a byte of Data gone", func(m *api.Msg) { m.Data = slices.Delete(m.Data, i, i+1) }})
	}
	for i := range m.Flow.Match {
		all = append(all, change{"a value of Match", func(m *api.Msg) { m.Flow.Match[i].Value.Lo++ }}, change{"a mask of Match", func(m *api.Msg) { m.Flow.Match[i].Masked = !m.Flow.Match[i].Masked }})
	}
	for i := range m.Flow.Insts {
		all = append(all, change{"a Kind of Insts", func(m *api.Msg) { m.Flow.Insts[i].Kind++ }}, change{"one of Insts gone", func(m *api.Msg) { m.Flow.Insts = slices.Delete(m.Flow.Insts, i, i+1) }})
		for k := range m.Flow.Insts[i].Acts {
			all = append(all, change{"an action of Insts", func(m *api.Msg) { m.Flow.Insts[i].Acts[k].Max++ }})
		}
	}
	for i := range m.Group.Buckets {
		all = append(all, change{"a Weight", func(m *api.Msg) { m.Group.Buckets[i].Weight++ }}, change{"a bucket gone", func(m *api.Msg) { m.Group.Buckets = slices.Delete(m.Group.Buckets, i, i+1) }})
		for k := range m.Group.Buckets[i].Acts {
			all = append(all, change{"an action of Buckets", func(m *api.Msg) { m.Group.Buckets[i].Acts[k].Max++ }})
		}
	}
	return all
}

func TestSame(t *testing.T) { // P20.1: but for one field; whether they may be or not
	full := api.Msg{Kind: -7, Xid: 1 << 40, Flow: flow(), Group: group(), Fault: api.Fault{Type: 9, Code: -9}, Data: count(20)}
	all := []api.Msg{{}, full, {Fault: fault(1, 2)}, {Data: []byte{0}}}
	for _, one := range each() {
		all = append(all, one.m)
	}
	for i, m := range all {
		if !msg.Same(m, m) || !msg.Same(m, copied(m)) || !msg.Same(copied(m), m) {
			t.Errorf("%s isn't the same as itself", short(m))
		}
		for _, c := range append(changes(), changesWithin(m)...) {
			other := copied(m)
			c.do(&other)
			if equal(m, other) {
				t.Fatalf("%s: nothing is changed in %s", c.name, short(m))
			}
			if msg.Same(m, other) || msg.Same(other, m) {
				t.Errorf("%s: %s is the same as %s", c.name, short(m), short(other))
			}
		}
		for k, other := range all {
			if msg.Same(m, other) != (i == k) {
				t.Errorf("Same(%s, %s): %v", short(m), short(other), i != k)
			}
		}
	}
}

// draws answers numbers below n, the same ones each time.
func draws() func(n int) int {
	next := uint64(1)
	return func(n int) int {
		next = next*6364136223846793005 + 1442695040888963407
		return int(next >> 33 % uint64(n))
	}
}

func TestOneForm(t *testing.T) { // P20.2: of any bytes: what is read has just the bytes that it was read from
	draw := draws()
	var all [][]byte
	for _, one := range append(each(), piece{m: api.Msg{Kind: 14}, b: bareFlow()}, piece{m: api.Msg{Kind: 15}, b: bareGroup()}) {
		all = append(all, laid(one.m.Kind, 0x01020304, one.b...))
	}
	read := 0
	for range 40000 {
		b := slices.Clone(all[draw(len(all))])
		for range draw(4) {
			b[draw(len(b))] = byte(draw(256))
		}
		m, f := msg.Decode(b)
		if f.Is {
			if !equal(m, api.Msg{}) {
				t.Errorf("Decode(%s): %s beside %v", short(b), short(m), f)
			}
			continue
		}
		read++
		if again, e := msg.Encode(m); e != api.OK || !bytes.Equal(again, b) || !msg.Right(m) {
			t.Errorf("Encode of what %s is: %s, %d", short(b), short(again), e)
		}
	}
	if read < 10000 {
		t.Errorf("only %d were read", read)
	}
}

// room is a list of l's with more of them behind.
func room[T any](l []T, more ...T) []T {
	return append(slices.Clone(l), more...)[:len(l)]
}

// roomy is m with room behind all its lists, and something in it.
func roomy(m api.Msg) api.Msg {
	m = copied(m)
	m.Data = room(m.Data, 1, 2, 3)
	m.Flow.Match = room(m.Flow.Match, api.Oxm{Field: 3}, api.Oxm{Field: 5})
	m.Flow.Insts = room(m.Flow.Insts, api.Inst{Kind: 2}, api.Inst{Kind: 3})
	m.Group.Buckets = room(m.Group.Buckets, api.Bucket{Weight: 5}, api.Bucket{Weight: 6})
	for i := range m.Flow.Insts {
		m.Flow.Insts[i].Acts = room(m.Flow.Insts[i].Acts, api.Action{Kind: 18}, api.Action{Port: 9})
	}
	for i := range m.Group.Buckets {
		m.Group.Buckets[i].Acts = room(m.Group.Buckets[i].Acts, api.Action{Kind: 18}, api.Action{Port: 9})
	}
	return m
}

// whole is m with what stands in the room behind its lists, as a copy.
func whole(m api.Msg) api.Msg {
	m.Data = slices.Clone(m.Data[:cap(m.Data)])
	m.Flow.Match = slices.Clone(m.Flow.Match[:cap(m.Flow.Match)])
	m.Flow.Insts = slices.Clone(m.Flow.Insts[:cap(m.Flow.Insts)])
	m.Group.Buckets = slices.Clone(m.Group.Buckets[:cap(m.Group.Buckets)])
	for i, x := range m.Flow.Insts {
		m.Flow.Insts[i].Acts = slices.Clone(x.Acts[:cap(x.Acts)])
	}
	for i, x := range m.Group.Buckets {
		m.Group.Buckets[i].Acts = slices.Clone(x.Acts[:cap(x.Acts)])
	}
	return m
}

// wipe overwrites all that m's lists have, and the room behind them.
func wipe(m api.Msg) {
	for _, x := range m.Flow.Insts {
		clear(x.Acts[:cap(x.Acts)])
	}
	for _, x := range m.Group.Buckets {
		clear(x.Acts[:cap(x.Acts)])
	}
	fill(m.Data)
	clear(m.Flow.Match[:cap(m.Flow.Match)])
	clear(m.Flow.Insts[:cap(m.Flow.Insts)])
	clear(m.Group.Buckets[:cap(m.Group.Buckets)])
}

// fill overwrites b, and the room behind it.
func fill(b []byte) {
	b = b[:cap(b)]
	for i := range b {
		b[i] = 0xEE
	}
}

// handed are messages to be handed in, those that may not be among them.
func handed() []api.Msg {
	var all []api.Msg
	for _, one := range append(each(), bodies()...) {
		wrong := one.m
		wrong.Xid = -1
		all = append(all, one.m, wrong)
	}
	for _, f := range wrongFlows() {
		all = append(all, api.Msg{Kind: 14, Flow: f})
	}
	for _, g := range wrongGroups() {
		all = append(all, api.Msg{Kind: 15, Group: g})
	}
	return append(all, api.Msg{Kind: 9, Flow: flow(), Group: group(), Data: count(3)}, api.Msg{Kind: 1, Data: count(60001)}, api.Msg{Data: count(60001)}, api.Msg{Kind: 2, Data: count(60000)})
}

func TestMessagesStay(t *testing.T) { // R3: what is handed in, its spare room included; it isn't kept, and isn't what is answered
	for _, m := range handed() {
		a, b := roomy(m), roomy(m)
		was := whole(a)
		right, same := msg.Right(a), msg.Same(a, b)
		msg.Same(b, a)
		kept, e := msg.Encode(a)
		other, _ := msg.Encode(a)
		before := slices.Clone(kept)
		fill(other)
		if !same || !equal(whole(a), was) || !equal(whole(b), was) || !bytes.Equal(kept, before) {
			t.Errorf("a message was changed, or shares with what was answered: %s", short(m))
		}
		wipe(a)
		again, x := msg.Encode(b)
		if x != e || !bytes.Equal(again, before) || !bytes.Equal(kept, before) || msg.Right(b) != right {
			t.Errorf("Encode of the same: %s and %s", short(before), short(again))
		}
	}
}

func TestBytesStay(t *testing.T) { // R3: what is handed in, its spare room included; it isn't kept, and isn't what is answered
	all := [][]byte{nil, make([]byte, 7), make([]byte, 8), laid(9, 7, count(10)...), says(laid(2, 7, count(5)...), 12), laid(1, 7, 1, 2, 3), laid(2, 7, count(60001)...)}
	for _, one := range append(bodies(), dataOf(count(60000))...) {
		all = append(all, laid(one.m.Kind, 7, one.b...))
	}
	for _, one := range badFlows() {
		all = append(all, laid(14, 7, one.b...))
	}
	for _, one := range badGroups() {
		all = append(all, laid(15, 7, one.b...))
	}
	for _, b := range all {
		for _, behind := range [][]byte{nil, count(40)} {
			mem := slices.Concat(b, behind)
			m, f := msg.Decode(mem[:len(b)])
			other, _ := msg.Decode(mem[:len(b)])
			wipe(other)
			if !bytes.Equal(mem, slices.Concat(b, behind)) {
				t.Errorf("Decode changed b's memory, or shares it: %s", short(b))
			}
			fill(mem)
			if again, x := msg.Decode(slices.Clone(b)); x != f || !equal(again, m) {
				t.Errorf("Decode of the same: %s, %v, and %s, %v", short(m), f, short(again), x)
			}
		}
	}
}

func TestListsOfAnAnswerAreApart(t *testing.T) { // R3: one list of an answer isn't another one's
	for _, one := range append(each(), bodies()...) {
		m, _ := msg.Decode(laid(one.m.Kind, 0, one.b...))
		for i := range m.Flow.Insts {
			wipeActs(m.Flow.Insts[i].Acts)
			for k := i + 1; k < len(m.Flow.Insts); k++ {
				if !slices.Equal(m.Flow.Insts[k].Acts, one.m.Flow.Insts[k].Acts) {
					t.Errorf("actions of %d and %d are shared: %s", i, k, short(one.m))
				}
			}
		}
		for i := range m.Group.Buckets {
			wipeActs(m.Group.Buckets[i].Acts)
			for k := i + 1; k < len(m.Group.Buckets); k++ {
				if !slices.Equal(m.Group.Buckets[k].Acts, one.m.Group.Buckets[k].Acts) {
					t.Errorf("actions of %d and %d are shared: %s", i, k, short(one.m))
				}
			}
		}
	}
}

func wipeActs(l []api.Action) { clear(l[:cap(l)]) }
