import Derived.Test.YtcfoieaejpdleaaNw
import Derived.Test.YtcfoieaejpdleaaNr
import Derived.Deep.RegionHeld3
import Derived.Deep.RegionWith
import Derived.Deep.MidRow
import Derived.Deep.Cut
import Derived.WalkMore
namespace Go.Proofs.Ytcfoieaejpdleaa
open Go Go.RowKit
set_option linter.unusedVariables false
set_option linter.unusedSimpArgs false
attribute [local go_sem] Oper.semAt_some

def lenV : Value → Nat
  | .slice _ n _ => n
  | _ => 0

set_option maxRecDepth 100000 in
set_option maxHeartbeats 8000000 in
theorem rrest_any (v : Value) (b r : List Int) (M : List (List Int)) (w : World) (hB : Bytes w v b) (hl : b.length ≤ 100000000000) (hC : Cuts b M r) :
    Calls Try.prog 15 #[v] w fun e w' => ∃ a c, e = .returned (.slice a r.length c) ∧ Bytes w' (.slice a r.length c) r ∧ Below w.heap.size w w' := by
  obtain ⟨ao, cap, rfl⟩ := hB.short
  obtain ⟨i0, hi0, hz0, hz1, hz2⟩ := info_parts info5
  have HI : Hid (Try.prog.info? 5 = some i0 ∧ i0.zero = some (.int .u8 0) ∧ i0.size = 1 ∧ i0.bytes = 1) := ⟨hi0, hz0, hz1, hz2⟩
  have HB := hide_ hB
  have HC := hide_ hC
  clear hi0 hz0 hz1 hz2 hB hC
  go_enter Try.func15, Try.ntmps15
  go_wp2 
  go_loopw [0] (fun v wr => ∃ (b' : List Int) (M' : List (List Int)) (a' : Option Addr) (c' : Nat), v = .slice a' b'.length c' ∧ b'.length ≤ 100000000000 ∧ Hid (Cuts b' M' r) ∧ Hid (Bytes wr (.slice a' b'.length c') b') ∧ Hid (Below w.heap.size w wr)) (fun v _ => lenV v)
  case atStart => exact ⟨b, M, ao, cap, rfl, hl, HC, HB, hide_ (Below.refl _ _)⟩
  case round =>
    obtain ⟨b', M', a', c', rfl, hlb, HCU, HBw, KB⟩ := hrel
    have hm := HBw.out.big
    have hcu := HCU.out
    cases hcu with
    | stop hn =>
      have q := hide_ (says_none _ _ _ HBw.out hn)
      have HBb := hide_ HBw.out.isB_
      clear hn HCU
      go_wp2_with (first
        | (go_at_call 25; refine q.out.mono ?_; rintro e w1 ⟨⟨z, rfl⟩, b1⟩; have k1 := hide_ (KB.out.trans (b1.mono KB.out.size)); have HBw := hide_ (HBw.out.later b1); clear b1)
        | (at_builtin; refine wpList_append_ownB rfl (.tmp 12) (.tmp 13) 22 rfl w1.heap.size 5 i0 Try.underlying22 HI.out.1 HI.out.2.1 HI.out.2.2.1 HI.out.2.2.2 (.slice (some ⟨w1.heap.size, 0, none⟩) 0 0) 0 [] (by simp [Act.eval, Act.put]) (World.ownsRow_made w1 #[] 0 (Nat.le_refl _) (Nat.zero_le _) rfl) (.slice a' r.length c') r (by simp [Act.eval, Act.put]) (HBw.out.later (below1 w1 (.cells #[] 5))) (by omega) (by simp) ?_; intro v8 w8 hown hg))
      go_ret
      have h8 : Bytes w8 v8 r := Bytes.ofOwn (base := w1.heap.size) (e := 5) (by simpa using hown) HBb.out
      have b8 := (below1 w1 (.cells #[] 5)).trans (below_grown hg w1.heap.size (by simp) (by simp [Value.ownBlock]))
      obtain ⟨a8, c8, rfl⟩ := h8.short
      exact ⟨a8, c8, rfl, h8, k1.out.trans (b8.mono k1.out.size)⟩
    | @step _ n M2 _ hn hrest =>
      have q := hide_ (says_some _ _ n _ HBw.out hn)
      obtain ⟨h8, hle⟩ := wholeF_some hn
      obtain ⟨a3, sl2, sl3, b3⟩ := bytes_slice HBw.out n hle
      have hd : (b'.drop n).length = b'.length - n := List.length_drop
      rw [← hd] at sl2 sl3 b3
      have B3 := hide_ b3
      have HR2 := hide_ hrest
      have hlt : (b'.drop n).length < b'.length := by omega
      have hle2 : (b'.drop n).length ≤ 100000000000 := by omega
      clear hn HCU b3 hrest hd
      generalize b'.drop n = b2 at *
      go_wp2_with (go_at_call 25; refine q.out.mono ?_; rintro e w1 ⟨rfl, b1⟩; have k1 := hide_ (KB.out.trans (b1.mono KB.out.size)); have B4 := hide_ (B3.out.later b1); clear b1)
      go_roundw
      case rel => exact ⟨b2, M2, a3, _, rfl, hle2, HR2, B4, k1⟩
      case measure => simp [lenV]; omega

end Go.Proofs.Ytcfoieaejpdleaa
