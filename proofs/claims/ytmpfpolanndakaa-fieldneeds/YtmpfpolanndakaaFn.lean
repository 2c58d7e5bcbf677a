import Derived.Test.YtmpfpolanndakaaFl
import Derived.Test.YtmpfpolanndakaaBa
import Derived.Deep.RegionHeld3
namespace Go.Proofs.Ytmpfpolanndakaa
open Go Go.RowKit
set_option linter.unusedVariables false
set_option linter.unusedSimpArgs false

/-- what is needed is ahead, and may have its values -/
def ndok (j : Nat) (p : Int × List Nat) : Bool := decide (p.1 < (j : Int)) && ((decide (p.1 = 5) && p.2.isEmpty) || (decide (p.1 = 4) && p.2.all (· < 65536)) || (decide (p.1 = 9) && p.2.all (· < 256)))
theorem nd_ok : ∀ j : Fin 24, (nd ((j.val : Nat) : Int)).all (ndok j.val) = true := by decide
theorem keep4 {g f : Nat} {w0 wa wb : World} {x y u : Value} (k : Below wa.heap.size wa wb) (h : wa.cell? ⟨g, 0, none⟩ = some x ∧ wa.cell? ⟨g, 1, none⟩ = some y ∧ wa.cell? ⟨f, 0, none⟩ = some u ∧ Below w0.heap.size w0 wa) :
    wb.cell? ⟨g, 0, none⟩ = some x ∧ wb.cell? ⟨g, 1, none⟩ = some y ∧ wb.cell? ⟨f, 0, none⟩ = some u ∧ Below w0.heap.size w0 wb :=
  ⟨cell_later k h.1, cell_later k h.2.1, cell_later k h.2.2.1, h.2.2.2.trans (k.mono h.2.2.2.size)⟩

set_option maxRecDepth 100000 in
set_option maxHeartbeats 4000000 in
theorem fieldNeeds_any (X : Nat) (w : World) (hX : X < 256) :
    Calls Try.prog 5 #[.int .u8 (X : Int)] w fun e w' => e = .returned (.bool true) ∧ Below w.heap.size w w' := by
  obtain ⟨j, hj, j24⟩ : ∃ j : Nat, (X : Int) % 24 = (j : Int) ∧ j < 24 := ⟨X % 24, by omega, by omega⟩
  have q1 := hide_ (fun w => needs_any (j : Int) w)
  have HL := hide_ (nd_ok ⟨j, j24⟩)
  dsimp only at HL
  generalize nd (j : Int) = l at *
  go_enter Try.func5, Try.ntmps5
  go_wp2_with (go_at_call 24; refine (q1.out _).mono ?_; rintro e w1 ⟨u, rfl, n1, h1⟩; obtain ⟨na, nc, rfl, n2, n3, n4, n5⟩ := n1; have hm : l.length ≤ 9223372036854775807 := (by unfold maxLen at n3; omega); have N5 := hide_ n5; clear n2 n3 n4 n5 q1)
  go_loopw [14] (fun i wr => ∃ k : Nat, k ≤ l.length ∧ i = .int .i64 k ∧ Below w1.heap.size w1 wr) (fun i _ => l.length - (intOf i).toNat)
  case atStart => exact ⟨0, Nat.zero_le _, rfl, Below.refl _ _⟩
  case round =>
    obtain ⟨k, hk, rfl, hb⟩ := hrel
    by_cases hlt : k < l.length
    · obtain ⟨⟨p1, p2⟩, hp⟩ : ∃ p, l[k]? = some p := ⟨_, List.getElem?_eq_getElem hlt⟩
      obtain ⟨b, off, ua, uc, rfl, c0, c1, c2⟩ := N5.out _ _ hp
      have hok : ndok j (p1, p2) = true := List.all_eq_true.1 HL.out _ (List.mem_of_getElem? hp)
      have hp1 : p1 < (j : Int) := by simp [ndok] at hok; exact hok.1
      have c0 := cell_later hb c0
      have c1 := cell_later hb c1
      have C2 := hide_ (c2.later hb)
      rw [← Nat.add_assoc] at c1
      dsimp only at c0 c1
      clear hp c2
      have hlt' : (k : Int) < (l.length : Int) := by omega
      have hf : fok p1 = true := by simp [fok]; simp [ndok] at hok; omega
      have q2 := hide_ (fun w => fright_any p1 w)
      rw [hf] at q2
      have hge : ¬ ((j : Int) ≤ p1) := by omega
      have HOK := hide_ hok
      clear hok hf
      go_wp2_with (go_at_call 21; refine (q2.out _).mono ?_; rintro e w2 ⟨rfl, rfl⟩)
      have P5 : Hid (Pair (wr.alloc (.cells #[.int .i64 p1, .slice ua p2.length uc] 31)) wr.heap.size (.int .i64 p1) (.slice ua p2.length uc)) := ⟨by simp [go_sem], by simp [go_sem], by simp [go_sem], by simp [go_sem]⟩
      have HW : Hid (Below wr.heap.size wr (wr.alloc (.cells #[.int .i64 p1, .slice ua p2.length uc] 31))) := hide_ (by go_grown)
      generalize wr.alloc (.cells #[.int .i64 p1, .slice ua p2.length uc] 31) = W at *
      obtain ⟨_, hm2, _, C4⟩ := C2.out.at
      have hm2' : p2.length ≤ 9223372036854775807 := by unfold maxLen at hm2; omega
      have C4 := hide_ C4
      clear hm2
      generalize hwo : wr = wo at *
      clear hwo wr
      go_loopw [31] (fun i wx => ∃ m : Nat, m ≤ p2.length ∧ i = .int .i64 m ∧ Below W.heap.size W wx) (fun i _ => p2.length - (intOf i).toNat)
      case atStart => exact ⟨0, Nat.zero_le _, rfl, Below.refl _ _⟩
      case round =>
        obtain ⟨m, hmm, rfl, hbx⟩ := hrel
        by_cases hlm : m < p2.length
        · obtain ⟨x, hx⟩ : ∃ x, p2[m]? = some x := ⟨_, List.getElem?_eq_getElem hlm⟩
          obtain ⟨x0, x1⟩ := wdc_at (lo p2) m (0, x) (by simp [lo, hx])
          obtain ⟨b2, off2, rfl, d0⟩ := C4.out _ _ x0
          obtain ⟨_, _, e, d1⟩ := C4.out _ _ x1
          cases e
          have d0 := cell_later hbx (cell_later HW.out d0)
          have d1 := cell_later hbx (cell_later HW.out d1)
          rw [← Nat.add_assoc] at d1
          dsimp only at d0 d1
          have hlm' : (m : Int) < (p2.length : Int) := by omega
          obtain ⟨f0, f1, f2, f3⟩ := P5.out.later hbx
          have hxm : x ∈ p2 := List.mem_of_getElem? hx
          have hcase : (p1 = 4 ∧ x < 65536) ∨ (p1 = 9 ∧ x < 256) := by
            have hok := HOK.out
            simp [ndok] at hok
            rcases hok.2 with (⟨_, e⟩ | ⟨e, r⟩) | ⟨e, r⟩
            · rw [e] at hx; simp at hx
            · exact .inl ⟨e, r x hxm⟩
            · exact .inr ⟨e, r x hxm⟩
          clear hx x0 x1 hxm
          rcases hcase with ⟨rfl, hx1⟩ | ⟨rfl, hx1⟩
          · have hz : (x : Int) / 65536 = 0 := by omega
            have q3 : Hid (∀ w, Calls Try.prog 13 #[.int .i64 4] w fun e w' => e = .returned (.int .i64 16) ∧ Below w.heap.size w w') := hide_ (fun w => fbits_any 4 w)
            go_wp2_with fail
            have F0 : (wr.alloc (.cells #[.int .u64 0, .int .u64 (x : Int)] 39)).cell? ⟨wo.heap.size, 0, none⟩ = some (.int .i64 4) := cell_later (by go_grown) f0
            have F1 : (wr.alloc (.cells #[.int .u64 0, .int .u64 (x : Int)] 39)).cell? ⟨wr.heap.size, 0, none⟩ = some (.int .u64 0) := by simp [go_sem]
            have F2 : (wr.alloc (.cells #[.int .u64 0, .int .u64 (x : Int)] 39)).cell? ⟨wr.heap.size, 1, none⟩ = some (.int .u64 (x : Int)) := by simp [go_sem]
            have HW2 : Hid (Below wr.heap.size wr (wr.alloc (.cells #[.int .u64 0, .int .u64 (x : Int)] 39))) := hide_ (by go_grown)
            generalize wr.alloc (.cells #[.int .u64 0, .int .u64 (x : Int)] 39) = W2 at *
            go_region_held3 (fun w' => w'.cell? ⟨wr.heap.size, 0, none⟩ = some (.int .u64 0) ∧ w'.cell? ⟨wr.heap.size, 1, none⟩ = some (.int .u64 (x : Int)) ∧ w'.cell? ⟨wo.heap.size, 0, none⟩ = some (.int .i64 4) ∧ Below W2.heap.size W2 w')
              (first | (exact keep4 (by assumption) (by assumption)) | (exact ⟨F1, F2, F0, (Below.refl _ _).drew⟩) | (exact keep4 (Below.refl _ _).drew (by assumption)) | (exact ⟨F1, F2, F0, Below.refl _ _⟩))
              (first | (go_at_call 13; refine (q3.out _).mono ?_; rintro e w3 ⟨rfl, h3⟩))
            rename_i hH
            go_wp2
            go_roundw
            case rel => exact ⟨m + 1, by omega, by go_num, hbx.trans ((HW2.out.trans (hH.2.2.2.mono HW2.out.size)).mono hbx.size)⟩
            case measure => simp [intOf]; omega
          · have hz : (x : Int) / 256 = 0 := by omega
            have q3 : Hid (∀ w, Calls Try.prog 13 #[.int .i64 9] w fun e w' => e = .returned (.int .i64 8) ∧ Below w.heap.size w w') := hide_ (fun w => fbits_any 9 w)
            go_wp2_with fail
            have F0 : (wr.alloc (.cells #[.int .u64 0, .int .u64 (x : Int)] 39)).cell? ⟨wo.heap.size, 0, none⟩ = some (.int .i64 9) := cell_later (by go_grown) f0
            have F1 : (wr.alloc (.cells #[.int .u64 0, .int .u64 (x : Int)] 39)).cell? ⟨wr.heap.size, 0, none⟩ = some (.int .u64 0) := by simp [go_sem]
            have F2 : (wr.alloc (.cells #[.int .u64 0, .int .u64 (x : Int)] 39)).cell? ⟨wr.heap.size, 1, none⟩ = some (.int .u64 (x : Int)) := by simp [go_sem]
            have HW2 : Hid (Below wr.heap.size wr (wr.alloc (.cells #[.int .u64 0, .int .u64 (x : Int)] 39))) := hide_ (by go_grown)
            generalize wr.alloc (.cells #[.int .u64 0, .int .u64 (x : Int)] 39) = W2 at *
            go_region_held3 (fun w' => w'.cell? ⟨wr.heap.size, 0, none⟩ = some (.int .u64 0) ∧ w'.cell? ⟨wr.heap.size, 1, none⟩ = some (.int .u64 (x : Int)) ∧ w'.cell? ⟨wo.heap.size, 0, none⟩ = some (.int .i64 9) ∧ Below W2.heap.size W2 w')
              (first | (exact keep4 (by assumption) (by assumption)) | (exact ⟨F1, F2, F0, (Below.refl _ _).drew⟩) | (exact keep4 (Below.refl _ _).drew (by assumption)) | (exact ⟨F1, F2, F0, Below.refl _ _⟩))
              (first | (go_at_call 13; refine (q3.out _).mono ?_; rintro e w3 ⟨rfl, h3⟩))
            rename_i hH
            go_wp2
            go_roundw
            case rel => exact ⟨m + 1, by omega, by go_num, hbx.trans ((HW2.out.trans (hH.2.2.2.mono HW2.out.size)).mono hbx.size)⟩
            case measure => simp [intOf]; omega
        · have hlm' : ¬ (m : Int) < (p2.length : Int) := by omega
          go_wp2
          go_roundw
          case rel => exact ⟨k + 1, by omega, by go_num, hb.trans ((HW.out.trans (hbx.mono HW.out.size)).mono hb.size)⟩
          case measure => simp [intOf]; omega
    · have hlt' : ¬ (k : Int) < (l.length : Int) := by omega
      go_wp2_with (go_at_call 27; refine (awake3_any _).mono ?_; rintro e w2 ⟨rfl, h2⟩)
      go_ret
      have a1 := h1.trans (hb.mono h1.size)
      exact ⟨rfl, a1.trans (h2.mono a1.size)⟩

end Go.Proofs.Ytmpfpolanndakaa
