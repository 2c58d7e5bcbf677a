import Derived.Test.YtfeioclnhnipmaaNa
import Derived.Test.YtfeioclnhnipmaaNc
import Derived.Deep.RegionHeld3
import Derived.Deep.RegionWith
import Derived.Deep.MidRow
import Derived.Deep.Cut
import Derived.WalkMore
import Derived.Shelf.Abstract
namespace Go.Proofs.Ytfeioclnhnipmaa
open Go Go.RowKit
set_option linter.unusedVariables false
set_option linter.unusedSimpArgs false
attribute [local go_sem] Oper.semAt_some

/-- b[n:] -/
theorem bytes_dropx {w : World} {g off n cap : Nat} {l : List Int} (h : Bytes w (.slice (some ⟨g, off, none⟩) n cap) l) (s : Nat) (hs : s ≤ l.length) :
    ∃ off', (∀ wx, (Instr.slice 24 (.slice (some ⟨g, off, none⟩) n cap) (some (.int .i64 (s : Int))) none none).run Try.prog wx = .ok (.slice (some ⟨g, off', none⟩) (n - s) (cap - s)) wx) ∧ Bytes w (.slice (some ⟨g, off', none⟩) (n - s) (cap - s)) (l.drop s) := by
  obtain ⟨a, c, e, h1, h2, h3, h4, h5⟩ := h
  cases e
  refine ⟨if cap = s then off else off + s, fun wx => ?_, ?_⟩
  · rw [run_slice_l wx 24 _ l.length cap u51 .i64 (s : Int) (by omega) (by omega), sz51]
    by_cases hc : cap = s
    · simp [sliced, hc]
    · simp [sliced, hc, Addr.add_lit]
  · refine ⟨_, cap - s, by rw [List.length_drop], by simp; omega, by omega, fun z hz => h3 z (List.mem_of_mem_drop hz), (fun hn => by cases hn), fun ad he j z hz => ?_⟩
    rw [List.getElem?_drop] at hz
    have hl : s + j < l.length := (List.getElem?_eq_some_iff.1 hz).1
    rw [if_neg (by omega)] at he
    cases he
    have := h5 _ rfl (s + j) z hz
    rw [Addr.add_lit] at this ⊢
    rw [Nat.add_assoc]
    exact this
/-- what is left to tell: bytes that the round keeps -/
def LeftOk (R : Nat → Prop) (W : World) (ao : Option Addr) (n cap : Nat) (b : List Int) : Prop := Bytes W (.slice ao n cap) b ∧ (0 < b.length → ∀ ad, ao = some ad → R ad.block)
theorem LeftOk.later {R : Nat → Prop} {W W' : World} {ao : Option Addr} {n cap : Nat} {b : List Int} (h : LeftOk R W ao n cap b) (hb : Below W.heap.size W W') : LeftOk R W' ao n cap b := ⟨h.1.later hb, h.2⟩
theorem bytes_of_cells {ao : Option Addr} {n cap : Nat} {b : List Int} {W W' : World} (h : Bytes W (.slice ao n cap) b) (hb : 0 < b.length → ∀ ad, ao = some ad → W'.heap[ad.block]? = W.heap[ad.block]?) : Bytes W' (.slice ao n cap) b := by
  obtain ⟨a, cap', e1, h1, h2, h3, h4, h5⟩ := h
  cases e1
  refine ⟨_, _, rfl, h1, h2, h3, h4, fun ad e j z hz => ?_⟩
  have e2 := h5 ad e j z hz
  have e3 := hb (by have := (List.getElem?_eq_some_iff.1 hz).1; omega) ad e
  have e4 : ∀ k, (ad.add k).block = ad.block := by intro k; unfold Addr.add; split <;> rfl
  unfold World.cell? at e2 ⊢
  rw [e4] at e2 ⊢
  rw [e3]; exact e2
theorem LeftOk.keep {R S T : Nat → Prop} {W W' : World} {ao : Option Addr} {n cap : Nat} {b : List Int} (h : LeftOk R W ao n cap b) (hk : Keep (Kp R S T) W W') : LeftOk R W' ao n cap b :=
  ⟨bytes_of_cells h.1 (fun h0 ad e => hk.block _ (.inl (h.2 h0 ad e))), h.2⟩
theorem bytes_lt {ao : Option Addr} {n cap : Nat} {b : List Int} {W : World} {ad : Addr} (h : Bytes W (.slice ao n cap) b) (h0 : 0 < b.length) (e : ao = some ad) : ad.block < W.heap.size := by
  obtain ⟨-, -, -, hat⟩ := Bytes.at h
  obtain ⟨z, hz⟩ : ∃ z, b[0]? = some z := ⟨_, List.getElem?_eq_getElem h0⟩
  obtain ⟨g, off, e1, hc⟩ := hat 0 z hz
  rw [e1] at e
  cases e
  unfold World.cell? at hc
  simp only at hc
  split at hc
  · rename_i cs e fz hh
    exact (Array.getElem?_eq_some_iff.1 hh).1
  · cases hc
theorem LeftOk.at_ {R : Nat → Prop} {W : World} {ao : Option Addr} {n cap : Nat} {b : List Int} (h : LeftOk R W ao n cap b) (hb : 0 < b.length) : ∃ g off, ao = some ⟨g, off, none⟩ ∧ R g := by
  obtain ⟨-, -, -, hat⟩ := Bytes.at h.1
  obtain ⟨z, hz⟩ : ∃ z, b[0]? = some z := ⟨_, List.getElem?_eq_getElem hb⟩
  obtain ⟨g, off, e, -⟩ := hat 0 z hz
  exact ⟨g, off, e, h.2 hb _ e⟩
theorem pre_snocT {pre L : List (List Int)} {x : List Int} {rest : List (List Int)} (h : pre ++ x :: rest = L) : pre ++ [x] <+: L := ⟨rest, by rw [← h]; simp⟩
theorem Grew.same {S T : Nat → Prop} {A A' : World} (h : Below A.heap.size A A') : Grew S T S T A A' := ⟨h, fun _ h => .inl h, fun _ h => .inl h⟩

def sliceLen : Value → Nat
  | .slice _ n _ => n
  | _ => 0

set_option maxRecDepth 100000 in
set_option maxHeartbeats 8000000 in
theorem pieces_seq (ao : Option Addr) (n cap : Nat) (b r : List Int) (M : List (List Int)) (gb : Nat) (w : World) (R : Nat → Prop) (hgb : R gb) (hL : LeftOk R w ao n cap b) (hA : AB w gb 24 [.slice ao n cap]) (hC : Cuts b M r) :
    SeqT Try.prog 35 #[.pointer (some ⟨gb, 0, none⟩)] M R w := by
  intro l J Jx W hW hJ hJx hJg hY h0
  have HJ := hide_ hJ
  have HJg := hide_ hJg
  have HY := hide_ hY
  have H0 := hide_ h0
  have L0 := hide_ (hL.later hW)
  obtain ⟨x0, -⟩ := ((hA.later hW).cell (j := 0) rfl)
  have HM : Hid (∃ pre M', pre ++ M' = M ∧ Cuts b M' r ∧ J (fun _ => False) (fun _ => False) pre W) := hide_ ⟨[], M, rfl, hC, h0⟩
  clear hJ hJx hJg hY h0 hL hA hC hW
  show Calls Try.prog 35 #[.func (.yield l) #[] #[], .pointer (some ⟨gb, 0, none⟩)] W _
  go_enter Try.func35, Try.ntmps35
  go_wp2_with fail
  go_loopw [3] (fun u wr => ∃ (a1 : Option Addr) (n1 c1 : Nat) (b1 : List Int) (pre M' : List (List Int)), u = .slice a1 n1 c1 ∧ Hid (pre ++ M' = M) ∧ Hid (Cuts b1 M' r) ∧ Hid (LeftOk R wr a1 n1 c1 b1) ∧ Hid (J (fun _ => False) (fun _ => False) pre wr)) (fun u _ => sliceLen u)
  case atStart =>
    obtain ⟨pre, M', h1, h2, h3⟩ := HM.out
    exact ⟨ao, n, cap, b, pre, M', rfl, h1, h2, L0, h3⟩
  case round =>
    clear HM L0 H0 x0
    obtain ⟨a1, n1, c1, b1, pre, M', rfl, HE, HC, HL, HJJ⟩ := hrel
    have q := hide_ (whole_any _ b1 wr HL.out.1)
    cases hw : wholeF b1 with
    | none =>
      rw [hw] at q
      have HF : Hid (pre = M) := hide_ (by have h1 := HC.out; cases h1 with | stop _ => (have := HE.out; simpa using this) | step h2 _ => rw [hw] at h2; cases h2)
      clear hw HC HE
      go_wp2_with (go_at_call 36; refine q.out.mono ?_; rintro e w1 ⟨⟨z, rfl, -⟩, b1⟩; have J1 := hide_ (HJg.out _ _ _ _ _ _ _ HJJ.out (Grew.same b1)))
      refine bodyPost_ret (results_none rfl _ _ _) rfl ?_
      exact ⟨⟨_, rfl⟩, .inl ⟨_, _, HF.out ▸ J1.out⟩⟩
    | some k =>
      have hk := wholeF_some hw
      obtain ⟨M1, hM1, HC1⟩ : ∃ M1, M' = b1.take k :: M1 ∧ Hid (Cuts (b1.drop k) M1 r) := by
        have h1 := HC.out
        cases h1 with
        | stop h2 => rw [hw] at h2; cases h2
        | step h2 h3 => rw [hw] at h2; cases h2; exact ⟨_, rfl, hide_ h3⟩
      subst hM1
      obtain ⟨g, off, ea, hRg⟩ := HL.out.at_ (by omega)
      subst ea
      have hn1 : n1 = b1.length := by obtain ⟨h1, -⟩ := Bytes.at HL.out.1; exact h1
      rw [hw] at q
      have q : Hid (Calls Try.prog 36 #[.slice (some ⟨g, off, none⟩) n1 c1] wr fun e w' => e = .returned (.tuple #[.int .i64 (k : Int), .bool true]) ∧ Below wr.heap.size wr w') := hide_ (q.out.mono (by
        rintro e w' ⟨⟨z, rfl, hz⟩, hb⟩
        exact ⟨by rw [hz k rfl]; rfl, hb⟩))
      have hlen : (b1.take k).length = k := by rw [List.length_take]; omega
      obtain ⟨r1, HT⟩ := bytes_taken HL.out.1 k (by omega)
      obtain ⟨off2, r2, HD⟩ := bytes_dropx HL.out.1 k (by omega)
      have HK := hide_ hk
      have HLen := hide_ hlen
      have HN1 := hide_ hn1
      clear hw HC hk hlen hn1
      go_upto_region 2 with (go_at_call 36; refine q.out.mono ?_; rintro e w1 ⟨rfl, b1'⟩)
      have J1 := HJg.out _ _ _ _ _ _ _ HJJ.out (Grew.same b1')
      have HL1 := hide_ (HL.out.later b1')
      have hT1 : Told R (fun _ => False) (fun _ => False) (b1.take k) #[.slice (some ⟨g, off, none⟩) k k] w1 := ⟨g, off, by rw [HLen.out], by rw [HLen.out]; exact HT.later b1', ⟨fun h => h, .inl hRg⟩, by rw [HLen.out]; have := HK.out; omega⟩
      obtain ⟨fn, tmps, assign, body, hy, hR⟩ := HY.out _ _ pre _ _ w1 (pre_snocT HE.out) J1 hT1
      clear J1 hT1 HL
      refine (wpIn_wide (n := 0)).1 (wpIn_region_lit ?_)
      gi_wp2_with fail
      refine ⟨rfl, hR.mono ?_⟩
      clear hy hR
      rintro e W3 (⟨rfl, J9, kp⟩ | ⟨rfl, J9, kp⟩)
      · have J9 := hide_ J9
        have HL9 : Hid (LeftOk R W3 (some ⟨g, off2, none⟩) (n1 - k) (c1 - k) (b1.drop k)) := hide_ (LeftOk.keep (W := w1) ⟨HD.later b1', fun _ ad e => by cases e; exact hRg⟩ kp)
        clear HL1 kp
        gi_wp2_with fail
        go_wp2_with fail
        go_roundw
        case rel => exact ⟨_, _, _, b1.drop k, pre ++ [b1.take k], M1, rfl, hide_ (by rw [← HE.out]; simp), HC1, HL9, J9⟩
        case measure => have := HK.out; have := HN1.out; simp [sliceLen]; omega
      · have J9 := hide_ J9
        have HF := hide_ (pre_snocT HE.out)
        gi_wp2_with fail
        go_wp2_with fail
        refine bodyPost_ret (results_none rfl _ _ _) rfl ?_
        exact ⟨⟨_, rfl⟩, .inr ⟨_, _, _, HF.out, J9.out⟩⟩

set_option maxRecDepth 100000 in
set_option maxHeartbeats 8000000 in
theorem pieces_any (v : Value) (b r : List Int) (M : List (List Int)) (w : World) (hB : Bytes w v b) (hC : Cuts b M r) :
    Calls Try.prog 34 #[v] w fun e w' => ∃ u, e = .returned u ∧ IsSeqT Try.prog u M (fun k => k = w.heap.size ∨ (v.ownBlock = some k ∧ k < w.heap.size)) w' ∧ Below w.heap.size w w' ∧ w'.heap.size = w.heap.size + 1 := by
  obtain ⟨ao, cap, rfl⟩ := hB.short
  have B0 := hide_ (below1 w (.cells #[.slice ao b.length cap] 24))
  have A0 := hide_ (AB.at0 w 24 [.slice ao b.length cap])
  have HP := hide_ (fun (W : World) (R : Nat → Prop) (h1 : R w.heap.size) (h2 : LeftOk R W ao b.length cap b) (h3 : AB W w.heap.size 24 [.slice ao b.length cap]) => pieces_seq ao b.length cap b r M w.heap.size W R h1 h2 h3 hC)
  have HB := hide_ hB
  clear hC hB
  go_enter Try.func34, Try.ntmps34
  go_wp2
  go_ret
  refine ⟨_, rfl, ⟨_, _, rfl, enters_of Try.func35 (by kernel_rfl) rfl, HP.out _ _ (.inl rfl) ⟨HB.out.later B0.out, fun h0 ad e => .inr ⟨by rw [e]; rfl, bytes_lt HB.out h0 e⟩⟩ A0.out⟩, B0.out, by simp⟩

end Go.Proofs.Ytfeioclnhnipmaa
