/- Pots: step and Upto. -/
import Derived.Test.YtkimdnckbdeekaaProg
import Derived.WalkKit
import Derived.WalkLawsBesides
namespace Go.Proofs.Ytkimdnckbdeekaa
open Go.RowKit
def stepS (s : Int) : Int := IntKind.u64.wrap (IntKind.u64.wrap (s * 6364136223846793005) + 1442695040888963407)
def mixA (x c : Int) : Int := IntKind.u64.wrap (bits BinOp.xor IntKind.u64 x (x / 8589934592) * c)
def stepX (s : Int) : Int := bits BinOp.xor IntKind.u64 (mixA (mixA (stepS s) 18397679294719823053) 14181476777654086739) (mixA (mixA (stepS s) 18397679294719823053) 14181476777654086739 / 8589934592)
set_option maxHeartbeats 400000 in
theorem step_any (b : Nat) (s : Int) (w : World) (h : w.cell? ⟨b, 0, none⟩ = some (.int .u64 s)) (hf : w.frozen? ⟨b, 0, none⟩ = false) :
    Calls Try.prog 30 #[.pointer (some ⟨b, 0, none⟩)] w fun e w' => e = .returned (.int .u64 (stepX s)) ∧ w' = w.setCell ⟨b, 0, none⟩ (.int .u64 (stepS s)) := by
  go_enter Try.func30, Try.ntmps30
  go_wp2
  go_ret
  exact ⟨rfl, rfl⟩
/-- What Upto answers, and what the pot is then. -/
def uptoF (s m : Int) : Int := if m < 1 then 0 else wrap64 ((stepX s / 2048).tmod (m + 1))
def uptoS (s m : Int) : Int := if m < 1 then s else stepS s
theorem stepX_in (s : Int) : 0 ≤ stepX s ∧ stepX s ≤ 18446744073709551615 := bits_within .xor .u64 _ _
theorem uptoF_in (s m : Int) (h : m ≤ 1000) : 0 ≤ uptoF s m ∧ (uptoF s m ≤ m ∨ uptoF s m = 0) := by
  unfold uptoF
  by_cases h1 : m < 1
  · rw [if_pos h1]; omega
  · rw [if_neg h1]
    have h2 := stepX_in s
    have h3 : 0 ≤ stepX s / 2048 := by omega
    have h4 : (stepX s / 2048).tmod (m + 1) = (stepX s / 2048) % (m + 1) := Int.tmod_eq_emod_of_nonneg h3
    have h5 := Int.emod_nonneg (stepX s / 2048) (show m + 1 ≠ 0 by omega)
    have h6 := Int.emod_lt_of_pos (stepX s / 2048) (show 0 < m + 1 by omega)
    rw [h4, show wrap64 ((stepX s / 2048) % (m + 1)) = (stepX s / 2048) % (m + 1) from IntWalk.wrap64_in _ (by omega)]
    omega
/-- The pot's cell is another one, or nothing is. -/
def Put (w w' : World) (b : Nat) (s s' : Int) : Prop := w' = w.setCell ⟨b, 0, none⟩ (.int .u64 s') ∨ (w' = w ∧ s' = s)
theorem Put.cell {w w' : World} {b q p : Nat} {s s' : Int} {v : Value} (h : Put w w' b s s') (hbq : b ≠ q) (hv : w.cell? ⟨q, p, none⟩ = some v) : w'.cell? ⟨q, p, none⟩ = some v := by
  rcases h with rfl | ⟨rfl, _⟩
  · exact (World.cell?_setCell_other w _ _ _ (by intro e; cases e; exact hbq rfl)).trans hv
  · exact hv
set_option maxHeartbeats 400000 in
theorem upto_less (b : Nat) (m : Int) (w : World) (hm : m < 1) :
    Calls Try.prog 14 #[.pointer (some ⟨b, 0, none⟩), .int .i64 m] w fun e w' => e = .returned (.int .i64 0) ∧ w' = w := by
  go_enter Try.func14, Try.ntmps14
  go_wp2
  go_ret
  exact ⟨rfl, rfl⟩
set_option maxHeartbeats 400000 in
theorem upto_more (b : Nat) (s m : Int) (w : World) (hm : 1 ≤ m ∧ m ≤ 1000) (h : w.cell? ⟨b, 0, none⟩ = some (.int .u64 s)) (hf : w.frozen? ⟨b, 0, none⟩ = false) :
    Calls Try.prog 14 #[.pointer (some ⟨b, 0, none⟩), .int .i64 m] w fun e w' => e = .returned (.int .i64 (wrap64 ((stepX s / 2048).tmod (m + 1)))) ∧ w' = w.setCell ⟨b, 0, none⟩ (.int .u64 (stepS s)) := by
  obtain ⟨h1, h2⟩ := hm
  have hz : ¬ m < 1 := by omega
  go_enter Try.func14, Try.ntmps14
  go_wp2_with (go_at_call 30; refine (step_any _ _ _ h hf).mono ?_; rintro e w1 ⟨rfl, rfl⟩)
  go_ret
  exact ⟨rfl, rfl⟩
theorem upto_any (b : Nat) (s m : Int) (w : World) (hm : m ≤ 1000) (h : w.cell? ⟨b, 0, none⟩ = some (.int .u64 s)) (hf : w.frozen? ⟨b, 0, none⟩ = false) :
    Calls Try.prog 14 #[.pointer (some ⟨b, 0, none⟩), .int .i64 m] w fun e w' => e = .returned (.int .i64 (uptoF s m)) ∧ Put w w' b s (uptoS s m) := by
  unfold uptoF uptoS
  by_cases h1 : m < 1
  · rw [if_pos h1, if_pos h1]
    exact (upto_less b m w h1).mono fun e w' ⟨he, hw⟩ => ⟨he, .inr ⟨hw, rfl⟩⟩
  · rw [if_neg h1, if_neg h1]
    exact (upto_more b s m w (by omega) h hf).mono fun e w' ⟨he, hw⟩ => ⟨he, .inl hw⟩
def pick3 (x y z u : Int) : Int := if u = 0 then x else if u = 1 then y else z
set_option maxHeartbeats 400000 in
theorem of3_any (b q o : Nat) (s x y z : Int) (w : World) (h : w.cell? ⟨b, 0, none⟩ = some (.int .u64 s)) (hf : w.frozen? ⟨b, 0, none⟩ = false) (hbq : b ≠ q)
    (h0 : w.cell? ⟨q, o, none⟩ = some (.int .i64 x)) (h1 : w.cell? ⟨q, o + 1, none⟩ = some (.int .i64 y)) (h2 : w.cell? ⟨q, o + 2, none⟩ = some (.int .i64 z)) :
    Calls Try.prog 13 #[.pointer (some ⟨b, 0, none⟩), .slice (some ⟨q, o, none⟩) 3 3] w fun e w' => e = .returned (.int .i64 (pick3 x y z (uptoF s 2))) ∧ Put w w' b s (uptoS s 2) := by
  have hu := uptoF_in s 2 (by omega)
  have hcase : uptoF s 2 = 0 ∨ uptoF s 2 = 1 ∨ uptoF s 2 = 2 := by omega
  rcases hcase with e0 | e0 | e0
  · have he : pick3 x y z (uptoF s 2) = x := by rw [e0]; rfl
    clear hu
    go_enter Try.func13, Try.ntmps13
    go_wp2_with (go_at_call 14; refine (upto_any _ _ _ _ (by decide) h hf).mono ?_; rintro e w1 ⟨rfl, hp⟩; have g0 := hp.cell hbq h0; have g1 := hp.cell hbq h1; have g2 := hp.cell hbq h2)
    go_ret
    exact ⟨by rw [he]; rfl, hp⟩
  · have he : pick3 x y z (uptoF s 2) = y := by rw [e0]; rfl
    clear hu
    go_enter Try.func13, Try.ntmps13
    go_wp2_with (go_at_call 14; refine (upto_any _ _ _ _ (by decide) h hf).mono ?_; rintro e w1 ⟨rfl, hp⟩; have g0 := hp.cell hbq h0; have g1 := hp.cell hbq h1; have g2 := hp.cell hbq h2)
    go_ret
    exact ⟨by rw [he]; rfl, hp⟩
  · have he : pick3 x y z (uptoF s 2) = z := by rw [e0]; rfl
    clear hu
    go_enter Try.func13, Try.ntmps13
    go_wp2_with (go_at_call 14; refine (upto_any _ _ _ _ (by decide) h hf).mono ?_; rintro e w1 ⟨rfl, hp⟩; have g0 := hp.cell hbq h0; have g1 := hp.cell hbq h1; have g2 := hp.cell hbq h2)
    go_ret
    exact ⟨by rw [he]; rfl, hp⟩
end Go.Proofs.Ytkimdnckbdeekaa
