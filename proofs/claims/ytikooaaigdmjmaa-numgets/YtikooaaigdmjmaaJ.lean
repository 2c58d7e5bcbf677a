import Derived.Test.YtikooaaigdmjmaaI
namespace Go.Proofs.Ytikooaaigdmjmaa
open Go.RowKit
set_option linter.unusedVariables false
set_option linter.unusedSimpArgs false

theorem cell_at {w : World} {b off : Nat} {l : List Int} (h : ∀ j z, l[j]? = some z → w.cell? ⟨b, off + j, none⟩ = some (.int .u8 z)) (hl : isB l) (k : Nat) (hk : k < l.length) :
    ∃ z, 0 ≤ z ∧ z ≤ 255 ∧ w.cell? ⟨b, off + k, none⟩ = some (.int .u8 z) := by
  refine ⟨l[k], (hl _ (List.getElem_mem hk)).1, (hl _ (List.getElem_mem hk)).2, h k _ (List.getElem?_eq_getElem hk)⟩

set_option maxHeartbeats 400000 in
theorem numGets_walk (v : Value) (l : List Int) (at_ size : Int) (w : World) (hB : Bytes w v l) :
    Calls Try.prog 3 #[v, .int .i64 at_, .int .i64 size] w fun e w' => e = .returned (.bool true) ∧ Below w.heap.size w w' := by
  have hB0 := hB
  obtain ⟨a, cap, rfl, hl, hm, hrest⟩ := hB
  clear hrest
  by_cases h : szB size = false ∨ at_ < 0
  · go_enter Try.func3, Try.ntmps3
    go_wp2_with fail
    refine (get_arg a l.length cap at_ size w h).mono ?_
    rintro e w1 ⟨rfl, rfl⟩
    go_wp2_with fail
    refine (rget_arg a l.length cap at_ size w h).mono ?_
    rintro e w1 ⟨rfl, rfl⟩
    go_wp2_with (go_at_call 11; refine (awake_any _).mono ?_; rintro e w1 ⟨rfl, b1⟩)
    go_ret
    exact ⟨rfl, b1⟩
  · have hs : szB size = true := by cases e : szB size; (exact absurd (.inl e) h); rfl
    have h0 : 0 ≤ at_ := by have : ¬ at_ < 0 := fun e => h (.inr e); omega
    by_cases hsh : (l.length : Int) - size < at_
    · clear h
      have hm' : l.length ≤ maxLen := Nat.le_trans hl hm
      have HS : Hid _ := hsh
      have HS1 : Hid (szB size = true) := hs
      clear hsh hs
      go_enter Try.func3, Try.ntmps3
      go_wp2_with fail
      refine (get_short a l.length cap at_ size w hm' HS1.out h0 HS.out).mono ?_
      rintro e w1 ⟨rfl, rfl⟩
      go_wp2_with fail
      refine (rget_short a l.length cap at_ size w hm' HS1.out h0 HS.out).mono ?_
      rintro e w1 ⟨rfl, rfl⟩
      go_wp2_with (go_at_call 11; refine (awake_any _).mono ?_; rintro e w1 ⟨rfl, b1⟩)
      go_ret
      exact ⟨rfl, b1⟩
    · obtain ⟨k, rfl⟩ := Int.eq_ofNat_of_zero_le h0
      obtain ⟨hy1, hy2, hlB, hat⟩ := hB0.at
      clear hy1 hy2
      have hs2 := szB_true hs
      have hne : l ≠ [] := by intro e; subst e; simp at hsh; omega
      obtain ⟨b, off, rfl, hx0⟩ := hat 0 _ (List.getElem?_eq_getElem (List.length_pos_iff.2 hne))
      have hc : ∀ j z, l[j]? = some z → w.cell? ⟨b, off + j, none⟩ = some (.int .u8 z) := fun j z hz => by
        obtain ⟨b', off', e, hc⟩ := hat j z hz
        cases e
        exact hc
      clear hat h hx0 hne hB0
      rcases hs2 with rfl | rfl | rfl
      · have hk : k + 1 ≤ l.length := by omega
        obtain ⟨z0, p0, q0, c0⟩ := cell_at hc hlB (k + 0) (by omega)
        have G := get_ok1 b off l.length cap k z0 w ⟨p0, q0⟩ hk hl hm c0
        have R := fun w1 (hb : Below w.heap.size w w1) => rget_ok1 b off l.length cap k z0 w1 ⟨p0, q0⟩ hk hl hm (cell_later hb c0)
        have HG := hide_ G
        have HR := hide_ R
        clear G R hc hlB hk hs hsh c0
        generalize z0 = val at HG HR
        clear p0 q0
        go_enter Try.func3, Try.ntmps3
        go_wp2_with fail
        refine HG.out.mono ?_
        rintro e w1 ⟨rfl, b1⟩
        go_wp2_with fail
        refine (HR.out w1 b1).mono ?_
        rintro e w2 ⟨rfl, rfl⟩
        have ev : (val == val) = true := by simp
        go_wp2_with (go_at_call 11; refine (awake_any _).mono ?_; rintro e w2 ⟨rfl, b2⟩)
        go_ret
        exact ⟨rfl, b1.trans (b2.mono b1.size)⟩
      · have hk : k + 2 ≤ l.length := by omega
        obtain ⟨z0, p0, q0, c0⟩ := cell_at hc hlB (k + 0) (by omega)
        obtain ⟨z1, p1, q1, c1⟩ := cell_at hc hlB (k + 1) (by omega)
        have G := get_ok2 b off l.length cap k z0 z1 w ⟨p0, q0⟩ ⟨p1, q1⟩ hk hl hm c0 c1
        have R := fun w1 (hb : Below w.heap.size w w1) => rget_ok2 b off l.length cap k z0 z1 w1 ⟨p0, q0⟩ ⟨p1, q1⟩ hk hl hm (cell_later hb c0) (cell_later hb c1)
        have HG := hide_ G
        have HR := hide_ R
        clear G R hc hlB hk hs hsh c0 c1
        generalize (z0 * 256 + z1) = val at HG HR
        clear p0 q0 p1 q1
        go_enter Try.func3, Try.ntmps3
        go_wp2_with fail
        refine HG.out.mono ?_
        rintro e w1 ⟨rfl, b1⟩
        go_wp2_with fail
        refine (HR.out w1 b1).mono ?_
        rintro e w2 ⟨rfl, rfl⟩
        have ev : (val == val) = true := by simp
        go_wp2_with (go_at_call 11; refine (awake_any _).mono ?_; rintro e w2 ⟨rfl, b2⟩)
        go_ret
        exact ⟨rfl, b1.trans (b2.mono b1.size)⟩
      · have hk : k + 4 ≤ l.length := by omega
        obtain ⟨z0, p0, q0, c0⟩ := cell_at hc hlB (k + 0) (by omega)
        obtain ⟨z1, p1, q1, c1⟩ := cell_at hc hlB (k + 1) (by omega)
        obtain ⟨z2, p2, q2, c2⟩ := cell_at hc hlB (k + 2) (by omega)
        obtain ⟨z3, p3, q3, c3⟩ := cell_at hc hlB (k + 3) (by omega)
        have G := get_ok4 b off l.length cap k z0 z1 z2 z3 w ⟨p0, q0⟩ ⟨p1, q1⟩ ⟨p2, q2⟩ ⟨p3, q3⟩ hk hl hm c0 c1 c2 c3
        have R := fun w1 (hb : Below w.heap.size w w1) => rget_ok4 b off l.length cap k z0 z1 z2 z3 w1 ⟨p0, q0⟩ ⟨p1, q1⟩ ⟨p2, q2⟩ ⟨p3, q3⟩ hk hl hm (cell_later hb c0) (cell_later hb c1) (cell_later hb c2) (cell_later hb c3)
        have HG := hide_ G
        have HR := hide_ R
        clear G R hc hlB hk hs hsh c0 c1 c2 c3
        generalize (((z0 * 256 + z1) * 256 + z2) * 256 + z3) = val at HG HR
        clear p0 q0 p1 q1 p2 q2 p3 q3
        go_enter Try.func3, Try.ntmps3
        go_wp2_with fail
        refine HG.out.mono ?_
        rintro e w1 ⟨rfl, b1⟩
        go_wp2_with fail
        refine (HR.out w1 b1).mono ?_
        rintro e w2 ⟨rfl, rfl⟩
        have ev : (val == val) = true := by simp
        go_wp2_with (go_at_call 11; refine (awake_any _).mono ?_; rintro e w2 ⟨rfl, b2⟩)
        go_ret
        exact ⟨rfl, b1.trans (b2.mono b1.size)⟩

end Go.Proofs.Ytikooaaigdmjmaa
