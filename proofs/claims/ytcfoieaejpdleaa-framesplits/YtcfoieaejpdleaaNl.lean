import Derived.Test.YtcfoieaejpdleaaNk
import Derived.Deep.RegionHeld3
import Derived.Deep.RegionWith
import Derived.Deep.MidRow
import Derived.Deep.Cut
namespace Go.Proofs.Ytcfoieaejpdleaa
open Go Go.RowKit
set_option linter.unusedVariables false
set_option linter.unusedSimpArgs false

theorem headF_isB {kind xid : Int} {body : List Int} (hb : isB body) (h : headR kind xid body = true) : isB (headF kind xid body) := by
  unfold headR at h
  simp only [Bool.and_eq_true, decide_eq_true_eq] at h
  obtain ⟨⟨ha, hc⟩, hd⟩ := h
  have r2 : rightB (8 + (body.length : Int)) 2 = true := by simp [rightB, szB, lim]; omega
  exact ((((spl_isB 4 1 (by decide)).app (spl_isB kind 1 ha)).app (spl_isB _ 2 r2)).app (spl_isB _ 4 hc)).app hb
set_option maxRecDepth 100000 in
set_option maxHeartbeats 8000000 in
theorem frameHeads_walk (kind xid : Int) (v : Value) (body : List Int) (w : World) (hB : Bytes w v body) :
    Calls Try.prog 5 #[.int .i64 kind, .int .i64 xid, v] w fun e w' => e = .returned (.bool true) ∧ Below w.heap.size w w' := by
  have hm := hB.big
  have HB := hide_ hB
  obtain ⟨ao, cap, rfl⟩ := hB.short
  by_cases h7 : body.length ≤ 70000
  · have h7' : ¬ (70000 : Int) < (body.length : Int) := by omega
    cases hr : headR kind xid body
    · have q1 := hide_ (fun W (hW : Below w.heap.size w W) => head_no kind xid (.slice ao body.length cap) body W (hB.later hW) hr)
      have q2 := hide_ (fun W (hW : Below w.heap.size w W) => rhead_no kind xid (.slice ao body.length cap) body W (hB.later hW) hr)
      clear hB hr h7
      go_enter Try.func5, Try.ntmps5
      go_wp2_with (first
        | (go_at_call 17; refine (q1.out _ (Below.refl _ _)).mono ?_; rintro e w1 ⟨rfl, b1⟩; have k1 := hide_ b1; clear b1)
        | (go_at_call 18; refine (q2.out _ k1.out).mono ?_; rintro e w2 ⟨rfl, b2⟩; have k2 := hide_ (k1.out.trans (b2.mono k1.out.size)); clear b2)
        | (go_at_call 12; refine (bequal_any _ _ [] [] _ (Bytes.nil _) (Bytes.nil _)).mono ?_; rintro e w3 ⟨rfl, e3⟩; have e3 := e3.symm; subst e3)
        | (go_at_call 7; refine (awake16_any _).mono ?_; rintro e w9 ⟨rfl, b9⟩))
      go_ret
      exact ⟨rfl, k2.out.trans (b9.mono k2.out.size)⟩
    · have q1 : Hid (∀ W, Below w.heap.size w W → Calls Try.prog 17 #[.int .i64 kind, .int .i64 xid, .slice ao body.length cap] W fun e w' => ∃ a c, e = .returned (.tuple #[.slice a (headF kind xid body).length c, .int .i64 0]) ∧ Bytes w' (.slice a (headF kind xid body).length c) (headF kind xid body) ∧ Below W.heap.size W w') := hide_ (fun W hW => (head_yes kind xid (.slice ao body.length cap) body W (hB.later hW) hr).mono (by
        rintro e w' ⟨r, rfl, o, b⟩
        have h := Bytes.ofOwn (l := headF kind xid body) (by rw [headF_len]; exact o) (headF_isB hB.isB_ hr)
        obtain ⟨a, c, rfl⟩ := h.short
        exact ⟨a, c, rfl, h, b⟩))
      have q2 : Hid (∀ W, Below w.heap.size w W → Calls Try.prog 18 #[.int .i64 kind, .int .i64 xid, .slice ao body.length cap] W fun e w' => ∃ a c, e = .returned (.tuple #[.slice a (headF kind xid body).length c, .int .i64 0]) ∧ Bytes w' (.slice a (headF kind xid body).length c) (headF kind xid body) ∧ Below W.heap.size W w') := hide_ (fun W hW => (rhead_yes kind xid (.slice ao body.length cap) body W (hB.later hW) hr).mono (by
        rintro e w' ⟨r, rfl, o, b⟩
        have h := Bytes.ofOwn (l := headF kind xid body) (by rw [headF_len]; exact o) (headF_isB hB.isB_ hr)
        obtain ⟨a, c, rfl⟩ := h.short
        exact ⟨a, c, rfl, h, b⟩))
      clear hB hr h7
      generalize headF kind xid body = B at *
      go_enter Try.func5, Try.ntmps5
      go_wp2_with (first
        | (go_at_call 17; refine (q1.out _ (Below.refl _ _)).mono ?_; rintro e w1 ⟨a1, c1, rfl, h1, b1⟩; have k1 := hide_ b1; have h1 := hide_ h1; clear b1)
        | (go_at_call 18; refine (q2.out _ k1.out).mono ?_; rintro e w2 ⟨a2, c2, rfl, h2, b2⟩; have k2 := hide_ (k1.out.trans (b2.mono k1.out.size)); have h2 := hide_ h2; have h1 := hide_ (h1.out.later b2); clear b2)
        | (go_at_call 12; refine (bequal_any _ _ B B _ h1.out h2.out).mono ?_; rintro e w3 ⟨rfl, e3⟩; have e3 := e3.symm; subst e3)
        | (go_at_call 7; refine (awake16_any _).mono ?_; rintro e w9 ⟨rfl, b9⟩))
      go_ret
      exact ⟨rfl, k2.out.trans (b9.mono k2.out.size)⟩
  · have h7' : (70000 : Int) < (body.length : Int) := by omega
    clear hB h7
    go_enter Try.func5, Try.ntmps5
    go_wp2_with (go_at_call 7; refine (awake16_any _).mono ?_; rintro e w9 ⟨rfl, b9⟩)
    go_ret
    exact ⟨rfl, b9⟩

end Go.Proofs.Ytcfoieaejpdleaa
