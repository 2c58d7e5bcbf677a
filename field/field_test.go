package field_test

import (
	"math"
	"slices"
	"testing"

	"weirbox/api"
	"weirbox/field"
)

// line is a row of the chapter's table: needValues are the values of each of needs, in order.
type line struct {
	field      int
	name       string
	id, bits   int
	size       int
	masks      bool
	needs      []int
	needValues [][]uint64
}

// lines is the chapter's table, written out anew, with the sizes that follow.
func lines() []line {
	ether := []int{api.EthType}
	both := []int{api.EthType, api.IPProto}
	ip := []uint64{0x0800, 0x86DD}
	return []line{
		{0, "in_port", 0, 32, 4, false, nil, nil},
		{1, "metadata", 2, 64, 8, true, nil, nil},
		{2, "eth_dst", 3, 48, 6, true, nil, nil},
		{3, "eth_src", 4, 48, 6, true, nil, nil},
		{4, "eth_type", 5, 16, 2, false, nil, nil},
		{5, "vlan_vid", 6, 13, 2, true, nil, nil},
		{6, "vlan_pcp", 7, 3, 1, false, []int{api.VlanVid}, [][]uint64{{}}},
		{7, "ip_dscp", 8, 6, 1, false, ether, [][]uint64{ip}},
		{8, "ip_ecn", 9, 2, 1, false, ether, [][]uint64{ip}},
		{9, "ip_proto", 10, 8, 1, false, ether, [][]uint64{ip}},
		{10, "ipv4_src", 11, 32, 4, true, ether, [][]uint64{{0x0800}}},
		{11, "ipv4_dst", 12, 32, 4, true, ether, [][]uint64{{0x0800}}},
		{12, "tcp_src", 13, 16, 2, false, both, [][]uint64{ip, {6}}},
		{13, "tcp_dst", 14, 16, 2, false, both, [][]uint64{ip, {6}}},
		{14, "udp_src", 15, 16, 2, false, both, [][]uint64{ip, {17}}},
		{15, "udp_dst", 16, 16, 2, false, both, [][]uint64{ip, {17}}},
		{16, "icmpv4_type", 19, 8, 1, false, both, [][]uint64{{0x0800}, {1}}},
		{17, "icmpv4_code", 20, 8, 1, false, both, [][]uint64{{0x0800}, {1}}},
		{18, "arp_op", 21, 16, 2, false, ether, [][]uint64{{0x0806}}},
		{19, "arp_spa", 22, 32, 4, true, ether, [][]uint64{{0x0806}}},
		{20, "arp_tpa", 23, 32, 4, true, ether, [][]uint64{{0x0806}}},
		{21, "ipv6_src", 26, 128, 16, true, ether, [][]uint64{{0x86DD}}},
		{22, "ipv6_dst", 27, 128, 16, true, ether, [][]uint64{{0x86DD}}},
		{23, "mpls_label", 34, 20, 3, false, ether, [][]uint64{{0x8847, 0x8848}}},
	}
}

// none are numbers that are no field's.
var none = []int{math.MinInt, math.MinInt + 1, -1 << 32, -25, -24, -2, -1, 24, 25, 26, 34, 255, 256, 1 << 32, math.MaxInt - 1, math.MaxInt}

func sameNeeds(got []api.Need, l line) bool {
	if len(got) != len(l.needs) {
		return false
	}
	for i, n := range got {
		want := []api.Wide{}
		for _, v := range l.needValues[i] {
			want = append(want, api.Wide{Lo: v})
		}
		if n.Field != l.needs[i] || !slices.Equal(n.Values, want) {
			return false
		}
	}
	return true
}

func TestEachField(t *testing.T) { // P3.1
	if n := len(lines()); n != api.Fields {
		t.Fatalf("%d lines", n)
	}
	for _, l := range lines() {
		f := l.field
		if got := field.Name(f); got != l.name {
			t.Errorf("Name(%d): %q, want %q", f, got, l.name)
		}
		if got := field.ID(f); got != l.id {
			t.Errorf("ID of %s: %d, want %d", l.name, got, l.id)
		}
		if got := field.Bits(f); got != l.bits {
			t.Errorf("Bits of %s: %d, want %d", l.name, got, l.bits)
		}
		if got := field.Size(f); got != l.size {
			t.Errorf("Size of %s: %d, want %d", l.name, got, l.size)
		}
		if got := field.Masks(f); got != l.masks {
			t.Errorf("Masks of %s: %v", l.name, got)
		}
		if got := field.Needs(f); !sameNeeds(got, l) {
			t.Errorf("Needs of %s: %v, want %v of %v", l.name, got, l.needs, l.needValues)
		}
		if !field.Right(f) {
			t.Errorf("Right of %s: false", l.name)
		}
		if got, ok := field.Index(l.id); got != f || !ok {
			t.Errorf("Index(%d): %d, %v, want %s", l.id, got, ok, l.name)
		}
	}
}

func TestByName(t *testing.T) { // P3.1: api's numbers are the table's rows
	if f, ok := field.Index(0); f != api.InPort || !ok {
		t.Error("0:", f, ok)
	}
	if field.Name(api.VlanVid) != "vlan_vid" || field.Size(api.VlanVid) != 2 {
		t.Error("VlanVid:", field.Name(api.VlanVid), field.Size(api.VlanVid))
	}
	if field.Name(api.ICMPCode) != "icmpv4_code" || field.Name(api.MPLSLabel) != "mpls_label" {
		t.Error("ICMPCode, MPLSLabel:", field.Name(api.ICMPCode), field.Name(api.MPLSLabel))
	}
}

func TestNoField(t *testing.T) { // P3.1
	for _, f := range none {
		if field.Right(f) || field.Masks(f) {
			t.Errorf("field %d: Right %v, Masks %v", f, field.Right(f), field.Masks(f))
		}
		if field.ID(f) != -1 || field.Bits(f) != 0 || field.Size(f) != 0 {
			t.Errorf("field %d: ID %d, Bits %d, Size %d", f, field.ID(f), field.Bits(f), field.Size(f))
		}
		if field.Name(f) != "" || len(field.Needs(f)) != 0 {
			t.Errorf("field %d: Name %q, Needs %v", f, field.Name(f), field.Needs(f))
		}
	}
}

func TestNoID(t *testing.T) { // P3.1
	ids := map[int]int{}
	for _, l := range lines() {
		ids[l.id] = l.field
	}
	asked := []int{math.MinInt, -1 << 32, -256, math.MaxInt, 1 << 32, 1<<32 + 5, 1 << 16}
	for id := -3; id < 600; id++ {
		asked = append(asked, id)
	}
	for _, id := range asked {
		f, ok := field.Index(id)
		if _, is := ids[id]; ok != is || !ok && f != 0 {
			t.Errorf("Index(%d): %d, %v", id, f, ok)
		}
	}
}

func TestIndexOfID(t *testing.T) { // P3.2
	for f := -100; f < 200; f++ {
		got, ok := field.Index(field.ID(f))
		if ok != field.Right(f) || ok && got != f || !ok && got != 0 {
			t.Errorf("Index of ID(%d): %d, %v", f, got, ok)
		}
	}
}

// spoil writes to all that a caller may write to, spare room included.
func spoil(all []api.Need) {
	for i := range all {
		values := all[i].Values[:cap(all[i].Values)]
		for j := range values {
			values[j] = api.Wide{Hi: 5, Lo: 5}
		}
		all[i].Field = 99
	}
	clear(all[:cap(all)])
}

func TestNeedsAreNew(t *testing.T) { // R3, R4
	for _, l := range lines() {
		kept := field.Needs(l.field)
		spoil(field.Needs(l.field))
		if !sameNeeds(kept, l) || !sameNeeds(field.Needs(l.field), l) {
			t.Errorf("Needs of %s are shared", l.name)
		}
		if len(kept) == 2 {
			spoil(kept[:1:1])
			if kept[1].Field != l.needs[1] || kept[1].Values[0].Lo != l.needValues[1][0] {
				t.Errorf("Needs of %s share one another's values", l.name)
			}
		}
	}
}
