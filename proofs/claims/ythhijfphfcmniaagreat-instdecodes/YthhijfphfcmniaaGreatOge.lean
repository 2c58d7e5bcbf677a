import Derived.Test.YthhijfphfcmniaaGreatOae
import Derived.Deep.RegionHeld3
import Derived.Deep.RegionWith
import Derived.Deep.MidRow
import Derived.Deep.Cut
set_option maxRecDepth 100000
set_option maxHeartbeats 8000000
set_option linter.unusedVariables false
set_option linter.unusedSimpArgs false
namespace Go.Proofs.YthhijfphfcmniaaGreat
open Go Go.RowKit
def kind (f : Int) (m : Bool) : Int := match m with | true => 2 * fid f + 1 | false => 2 * fid f
def foll (f : Int) (m : Bool) : Int := match m with | true => 2 * (fsize f : Int) | false => (fsize f : Int)
def encL (f : Int) (m : Bool) (a b c d : Nat) : List Int := (spl 32768 2 ++ spl (kind f m) 1 ++ spl (foll f m) 1 ++ wtail a b (fsize f : Int)) ++ (match m with | true => wtail c d (fsize f : Int) | false => [])
theorem fid_range (f : Int) (h : fok f = true) : 0 ≤ fid f ∧ fid f ≤ 100 := by
  unfold fok at h
  simp only [Bool.and_eq_true, decide_eq_true_eq] at h
  obtain ⟨j, rfl⟩ : ∃ j : Nat, f = (j : Int) := ⟨f.toNat, by omega⟩
  have hj : j < 24 := by omega
  have key : ∀ j : Nat, j < 24 → 0 ≤ fid (j : Int) ∧ fid (j : Int) ≤ 100 := by decide
  exact key j hj
theorem spl_len1 (n : Int) : (spl n 1).length = 1 := by simp [spl]
theorem spl_len2 (n : Int) : (spl n 2).length = 2 := by simp [spl]
theorem isB_spl1 (n : Int) : isB (spl n 1) := by
  intro z hz
  simp [spl] at hz
  subst hz
  omega
theorem isB_spl2 (n : Int) : isB (spl n 2) := by
  intro z hz
  simp [spl] at hz
  rcases hz with rfl | rfl <;> omega
theorem rgt_fok {f : Int} {m : Bool} {a b c d : Nat} (h : rgt f m a b c d = true) : fok f = true := by
  unfold rgt at h
  cases hf : fok f
  · rw [hf] at h; simp at h
  · rfl
theorem enc_bound1 (f : Int) (m : Bool) (h : fok f = true) : rightB (kind f m) 1 = true := by
  obtain ⟨h1, h2⟩ := fid_range f h
  unfold kind
  cases m
  · exact rightB_in1 (by dsimp only; omega) (by dsimp only; omega)
  · exact rightB_in1 (by dsimp only; omega) (by dsimp only; omega)
theorem enc_bound2 (f : Int) (m : Bool) : rightB (foll f m) 1 = true := by
  have := fsize_le f
  unfold foll
  cases m
  · exact rightB_in1 (by dsimp only; omega) (by dsimp only; omega)
  · exact rightB_in1 (by dsimp only; omega) (by dsimp only; omega)
theorem nput_any (v : Value) (l : List Int) (n s : Int) (w : World) (hB : Bytes w v l) (hl : l.length ≤ 1000) (hr : rightB n s = true) (hs : isB (spl n s)) :
    Calls Tryz.prog 73 #[v, .int .i64 n, .int .i64 s] w fun e w' => ∃ r, e = .returned r ∧ Bytes w' r (l ++ spl n s) ∧ Below w.heap.size w w' :=
  (put_any v l n s w hB (by omega) hr).mono fun e w' ⟨r, h1, h2, h3⟩ => ⟨r, h1, Bytes.ofOwn h2 (by
    obtain ⟨_, _, _, _, _, hb, _⟩ := hB
    exact hb.app hs), h3⟩
end Go.Proofs.YthhijfphfcmniaaGreat
