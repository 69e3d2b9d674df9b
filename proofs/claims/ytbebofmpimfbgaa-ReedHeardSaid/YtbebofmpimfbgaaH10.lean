/- Part 10 of the proof: Pot, PotG. -/
import Derived.Test.YtbebofmpimfbgaaProg
import Derived.WalkKit
import Derived.WalkLawsBesides
import Derived.Test.YtbebofmpimfbgaaH09
/- Pots: step and Upto. -/
namespace Go.Proofs.Ytbebofmpimfbgaa
set_option linter.all false
open Go.RowKit
def stepS (s : Int) : Int := IntKind.u64.wrap (IntKind.u64.wrap (s * 6364136223846793005) + 1442695040888963407)
def mixA (x c : Int) : Int := IntKind.u64.wrap (bits BinOp.xor IntKind.u64 x (x / 8589934592) * c)
def stepX (s : Int) : Int := bits BinOp.xor IntKind.u64 (mixA (mixA (stepS s) 18397679294719823053) 14181476777654086739) (mixA (mixA (stepS s) 18397679294719823053) 14181476777654086739 / 8589934592)
set_option maxHeartbeats 400000 in
theorem step_any (b : Nat) (s : Int) (w : World) (h : w.cell? ⟨b, 0, none⟩ = some (.int .u64 s)) (hf : w.frozen? ⟨b, 0, none⟩ = false) :
    Calls Try.prog 62 #[.pointer (some ⟨b, 0, none⟩)] w fun e w' => e = .returned (.int .u64 (stepX s)) ∧ w' = w.setCell ⟨b, 0, none⟩ (.int .u64 (stepS s)) := by
  go_enter Try.func62, Try.ntmps62
  go_wp2
  go_ret
  exact ⟨rfl, rfl⟩
/-- What Upto answers, and what the pot is then. -/
def uptoF (s m : Int) : Int := if m < 1 then 0 else wrap64 ((stepX s / 2048).tmod (m + 1))
def uptoS (s m : Int) : Int := if m < 1 then s else stepS s
theorem stepX_in (s : Int) : 0 ≤ stepX s ∧ stepX s ≤ 18446744073709551615 := bits_within .xor .u64 _ _
theorem uptoF_in (s m : Int) (h : m ≤ 1000) : 0 ≤ uptoF s m ∧ (uptoF s m ≤ m ∨ uptoF s m = 0) := by
  unfold uptoF
  by_cases h1 : m < 1
  · rw [if_pos h1]; omega
  · rw [if_neg h1]
    have h2 := stepX_in s
    have h3 : 0 ≤ stepX s / 2048 := by omega
    have h4 : (stepX s / 2048).tmod (m + 1) = (stepX s / 2048) % (m + 1) := Int.tmod_eq_emod_of_nonneg h3
    have h5 := Int.emod_nonneg (stepX s / 2048) (show m + 1 ≠ 0 by omega)
    have h6 := Int.emod_lt_of_pos (stepX s / 2048) (show 0 < m + 1 by omega)
    rw [h4, show wrap64 ((stepX s / 2048) % (m + 1)) = (stepX s / 2048) % (m + 1) from IntWalk.wrap64_in _ (by omega)]
    omega
/-- The pot's cell is another one, or nothing is. -/
def Put (w w' : World) (b : Nat) (s s' : Int) : Prop := w' = w.setCell ⟨b, 0, none⟩ (.int .u64 s') ∨ (w' = w ∧ s' = s)
theorem Put.cell {w w' : World} {b q p : Nat} {s s' : Int} {v : Value} (h : Put w w' b s s') (hbq : b ≠ q) (hv : w.cell? ⟨q, p, none⟩ = some v) : w'.cell? ⟨q, p, none⟩ = some v := by
  rcases h with rfl | ⟨rfl, _⟩
  · exact (World.cell?_setCell_other w _ _ _ (by intro e; cases e; exact hbq rfl)).trans hv
  · exact hv
set_option maxHeartbeats 400000 in
theorem upto_less (b : Nat) (m : Int) (w : World) (hm : m < 1) :
    Calls Try.prog 25 #[.pointer (some ⟨b, 0, none⟩), .int .i64 m] w fun e w' => e = .returned (.int .i64 0) ∧ w' = w := by
  go_enter Try.func25, Try.ntmps25
  go_wp2
  go_ret
  exact ⟨rfl, rfl⟩
set_option maxHeartbeats 400000 in
theorem upto_more (b : Nat) (s m : Int) (w : World) (hm : 1 ≤ m ∧ m ≤ 1000) (h : w.cell? ⟨b, 0, none⟩ = some (.int .u64 s)) (hf : w.frozen? ⟨b, 0, none⟩ = false) :
    Calls Try.prog 25 #[.pointer (some ⟨b, 0, none⟩), .int .i64 m] w fun e w' => e = .returned (.int .i64 (wrap64 ((stepX s / 2048).tmod (m + 1)))) ∧ w' = w.setCell ⟨b, 0, none⟩ (.int .u64 (stepS s)) := by
  obtain ⟨h1, h2⟩ := hm
  have hz : ¬ m < 1 := by omega
  go_enter Try.func25, Try.ntmps25
  go_wp2_with (go_at_call 62; refine (step_any _ _ _ h hf).mono ?_; rintro e w1 ⟨rfl, rfl⟩)
  go_ret
  exact ⟨rfl, rfl⟩
theorem upto_any (b : Nat) (s m : Int) (w : World) (hm : m ≤ 1000) (h : w.cell? ⟨b, 0, none⟩ = some (.int .u64 s)) (hf : w.frozen? ⟨b, 0, none⟩ = false) :
    Calls Try.prog 25 #[.pointer (some ⟨b, 0, none⟩), .int .i64 m] w fun e w' => e = .returned (.int .i64 (uptoF s m)) ∧ Put w w' b s (uptoS s m) := by
  unfold uptoF uptoS
  by_cases h1 : m < 1
  · rw [if_pos h1, if_pos h1]
    exact (upto_less b m w h1).mono fun e w' ⟨he, hw⟩ => ⟨he, .inr ⟨hw, rfl⟩⟩
  · rw [if_neg h1, if_neg h1]
    exact (upto_more b s m w (by omega) h hf).mono fun e w' ⟨he, hw⟩ => ⟨he, .inl hw⟩
def pick3 (x y z u : Int) : Int := if u = 0 then x else if u = 1 then y else z
set_option maxHeartbeats 400000 in
theorem of3_any (b q o : Nat) (s x y z : Int) (w : World) (h : w.cell? ⟨b, 0, none⟩ = some (.int .u64 s)) (hf : w.frozen? ⟨b, 0, none⟩ = false) (hbq : b ≠ q)
    (h0 : w.cell? ⟨q, o, none⟩ = some (.int .i64 x)) (h1 : w.cell? ⟨q, o + 1, none⟩ = some (.int .i64 y)) (h2 : w.cell? ⟨q, o + 2, none⟩ = some (.int .i64 z)) :
    Calls Try.prog 24 #[.pointer (some ⟨b, 0, none⟩), .slice (some ⟨q, o, none⟩) 3 3] w fun e w' => e = .returned (.int .i64 (pick3 x y z (uptoF s 2))) ∧ Put w w' b s (uptoS s 2) := by
  have hu := uptoF_in s 2 (by omega)
  have hcase : uptoF s 2 = 0 ∨ uptoF s 2 = 1 ∨ uptoF s 2 = 2 := by omega
  rcases hcase with e0 | e0 | e0
  · have he : pick3 x y z (uptoF s 2) = x := by rw [e0]; rfl
    clear hu
    go_enter Try.func24, Try.ntmps24
    go_wp2_with (go_at_call 25; refine (upto_any _ _ _ _ (by decide) h hf).mono ?_; rintro e w1 ⟨rfl, hp⟩; have g0 := hp.cell hbq h0; have g1 := hp.cell hbq h1; have g2 := hp.cell hbq h2)
    go_ret
    exact ⟨by rw [he]; rfl, hp⟩
  · have he : pick3 x y z (uptoF s 2) = y := by rw [e0]; rfl
    clear hu
    go_enter Try.func24, Try.ntmps24
    go_wp2_with (go_at_call 25; refine (upto_any _ _ _ _ (by decide) h hf).mono ?_; rintro e w1 ⟨rfl, hp⟩; have g0 := hp.cell hbq h0; have g1 := hp.cell hbq h1; have g2 := hp.cell hbq h2)
    go_ret
    exact ⟨by rw [he]; rfl, hp⟩
  · have he : pick3 x y z (uptoF s 2) = z := by rw [e0]; rfl
    clear hu
    go_enter Try.func24, Try.ntmps24
    go_wp2_with (go_at_call 25; refine (upto_any _ _ _ _ (by decide) h hf).mono ?_; rintro e w1 ⟨rfl, hp⟩; have g0 := hp.cell hbq h0; have g1 := hp.cell hbq h1; have g2 := hp.cell hbq h2)
    go_ret
    exact ⟨by rw [he]; rfl, hp⟩
end Go.Proofs.Ytbebofmpimfbgaa
/- Pots, as known calls: what a pot hands out is a symbol. -/
namespace Go.Sim
set_option linter.all false
open Go Go.RowKit Go.Proofs Go.Proofs.Ytbebofmpimfbgaa
variable [Rho] [Asm] [SymOK]
noncomputable section

def sy (k : IntKind) (i : Nat) : Value := .func (.yield (nat_lit 0)) ⟨[.int k (.ofNat i)]⟩ ⟨[]⟩
theorem sy_VR {ι : Io} (k : IntKind) (i : Nat) : VR ι (sy k i) (.int k (Rho.ρ i)) := .sym (.sym k i)
theorem sy_inv {ι : Io} {k : IntKind} {i : Nat} {v : Value} (h : VR ι (sy k i) v) : v = .int k (Rho.ρ i) := by
  cases h with
  | func hn => exact absurd rfl (hn _)
  | sym hd => cases hd; rfl
  | symB hd => cases hd

/-- What a known call on a pot comes to, in the machine's memory. -/
theorem potW {P : Program} {ι : Io} {s : St} {w w' : World} {b r c i j : Nat} (hW : WR P ι s w) (hg : s.h.get b = some (.cells [sy .u64 i])) (hb : ι b = some (r, c)) (hp : Put w w' r (Rho.ρ i) (Rho.ρ j)) :
    ∃ x, (∀ ι, OR P ι c (.cells [sy .u64 j]) x) ∧ w'.heap[r]? = some x ∧ w'.os = w.os ∧ w'.tape = w.tape ∧ w'.output = w.output ∧ w.heap.size ≤ w'.heap.size ∧ ∀ k, k < w.heap.size → k ≠ r → w'.heap[k]? = w.heap[k]? := by
  obtain ⟨r', c', x, e1, e2, cs, t, rfl, e3, l', tl, e4, e5⟩ := hW.obj b _ hg
  rw [hb] at e1
  cases e1
  cases e5 with
  | @cons v v' l l' hv hl =>
    cases hl
    have hv := sy_inv hv
    subst hv
    rcases hp with rfl | ⟨rfl, hs⟩
    · refine ⟨.cells (cs.setIfInBounds 0 (.int .u64 (Rho.ρ j))) t (0, 0), fun ι => ⟨_, t, rfl, by simpa using e3, [.int .u64 (Rho.ρ j)], tl, ?_, .cons (sy_VR _ _) .nil⟩, ?_, rfl, rfl, rfl, ?_, fun k hk hkr => ?_⟩
      · rw [Array.toList_setIfInBounds, e4]; rfl
      · simp [World.setCell, Array.getElem?_modify, e2]
      · simp [World.setCell]
      · simp [World.setCell, Array.getElem?_modify, Ne.symm hkr]
    · exact ⟨_, fun ι => ⟨cs, t, rfl, e3, [.int .u64 (Rho.ρ j)], tl, by rw [e4, hs], .cons (sy_VR _ _) .nil⟩, e2, rfl, rfl, rfl, Nat.le_refl _, fun k hk hkr => rfl⟩
theorem potCell {P : Program} {ι : Io} {s : St} {w : World} {b r c i : Nat} (hW : WR P ι s w) (hg : s.h.get b = some (.cells [sy .u64 i])) (hb : ι b = some (r, c)) : w.cell? ⟨r, 0, none⟩ = some (.int .u64 (Rho.ρ i)) ∧ w.frozen? ⟨r, 0, none⟩ = false := by
  obtain ⟨r', c', x, e1, e2, cs, t, rfl, e3, l', tl, e4, e5⟩ := hW.obj b _ hg
  rw [hb] at e1
  cases e1
  cases e5 with
  | @cons v v' l l' hv hl =>
    cases hl
    have hv := sy_inv hv
    subst hv
    refine ⟨?_, ?_⟩
    · rw [cell_of_row w r 0 cs t (0, 0) e2, ← Array.getElem?_toList, e4]; rfl
    · simp [World.frozen?, e2]

def uptoG (n i j r : Nat) (m : Int) : GenW := ⟨⟨(nat_lit 25), [.pointer (some ⟨n, (nat_lit 0), none⟩), .int .i64 m], none, n, [.cells [sy .u64 i]], sy .i64 r⟩, (nat_lit 0), .cells [sy .u64 j]⟩
theorem gwUpto {n i j r : Nat} {m : Int} (hn : (Nat.ble Try.prog.globals.size n && Nat.blt n limH) = true) (hm : m ≤ 1000) (h1 : Rho.ρ j = uptoS (Rho.ρ i) m) (h2 : Rho.ρ r = uptoF (Rho.ρ i) m) : GWFact Try.prog (uptoG n i j r m) := by
  simp only [Bool.and_eq_true] at hn
  refine ⟨⟨Nat.le_of_ble_eq_true hn.1, by have := blt_true hn.2; show n + 1 ≤ limH; omega⟩, fun ι w fv' args' q1 q2 q3 => ?_⟩
  cases q2 with
  | cons ha hb =>
    cases hb with
    | cons hm' hnil =>
      cases hnil
      rw [hm'.intI]
      obtain ⟨r0, c0, rfl, hbl⟩ := ha.ptrI
      have hget : (uptoG n i j r m).g.st.h.get n = some (.cells [sy .u64 i]) := by
        show (layB [.cells [sy .u64 i]] n .e).get n = _
        rw [layB_get (by have := blt_true hn.2; show n + 1 ≤ limH; omega) n, if_pos (by simp)]
        simp
      obtain ⟨hc, hf⟩ := potCell q3 hget hbl
      refine gplain Try.func25 rfl (by kernel_rfl) q1 ((upto_any r0 _ m w hm hc hf).mono ?_)
      rintro e w' ⟨rfl, hp⟩
      refine ⟨_, rfl, fun ι => by rw [← h2]; exact sy_VR _ _, r0, c0, ?_⟩
      rw [← h1] at hp
      obtain ⟨x, x1, x2⟩ := potW q3 hget hbl hp
      exact ⟨x, hbl, x1, x2⟩
def ofG (n i j r : Nat) (a b c : Value) : GenW := ⟨⟨(nat_lit 24), [.pointer (some ⟨n, (nat_lit 0), none⟩), .slice (some ⟨n + 1, (nat_lit 0), none⟩) (nat_lit 3) (nat_lit 3)], none, n, [.cells [sy .u64 i], .cells [a, b, c]], sy .i64 r⟩, (nat_lit 0), .cells [sy .u64 j]⟩
theorem gwOf {n i j r : Nat} {a b c : Value} {x y z : Int} (hn : (Nat.ble Try.prog.globals.size n && Nat.blt (n + 1) limH) = true) (ha : Den a .i64 x) (hb : Den b .i64 y) (hc : Den c .i64 z) (h1 : Rho.ρ j = uptoS (Rho.ρ i) 2) (h2 : Rho.ρ r = pick3 x y z (uptoF (Rho.ρ i) 2))
    (hu : ∀ ι v' k n, Den v' k n → ∀ u, VR ι v' u → u = .int k n) : GWFact Try.prog (ofG n i j r a b c) := by
  simp only [Bool.and_eq_true] at hn
  have hlim : n + 2 ≤ limH := by have := blt_true hn.2; omega
  refine ⟨⟨Nat.le_of_ble_eq_true hn.1, hlim⟩, fun ι w fv' args' q1 q2 q3 => ?_⟩
  cases q2 with
  | cons hp hs =>
    cases hs with
    | cons hsl hnil =>
      cases hnil
      obtain ⟨r0, c0, rfl, hbl⟩ := hp.ptrI
      obtain ⟨r1, c1, rfl, hbl1⟩ := hsl.slI (by decide)
      have hget : (ofG n i j r a b c).g.st.h.get n = some (.cells [sy .u64 i]) := by
        show (layB [.cells [sy .u64 i], .cells [a, b, c]] n .e).get n = _
        rw [layB_get hlim n, if_pos (by simp)]
        simp
      have hget1 : (ofG n i j r a b c).g.st.h.get (n + 1) = some (.cells [a, b, c]) := by
        show (layB [.cells [sy .u64 i], .cells [a, b, c]] n .e).get (n + 1) = _
        rw [layB_get hlim (n + 1), if_pos (by simp)]
        simp
      obtain ⟨hcell, hf⟩ := potCell q3 hget hbl
      have hne : r0 ≠ r1 := fun e => by
        subst e
        have := q3.inj n (n + 1) r0 c0 c1 (by rw [hget]; simp) (by rw [hget1]; simp) hbl hbl1
        omega
      obtain ⟨r', c', o, e1, e2, cs, t, rfl, e3, l', tl, e4, e5⟩ := q3.obj _ _ hget1
      rw [hbl1] at e1
      cases e1
      cases e5 with
      | cons v1 e5 => cases e5 with
        | cons v2 e5 => cases e5 with
          | cons v3 e5 =>
            cases e5
            have u1 := hu _ _ _ _ ha _ v1
            have u2 := hu _ _ _ _ hb _ v2
            have u3 := hu _ _ _ _ hc _ v3
            subst u1 u2 u3
            have cell : ∀ k v, [Value.int .i64 x, .int .i64 y, .int .i64 z][k]? = some v → w.cell? ⟨r1, 0 + k, none⟩ = some v := fun k v hv => by
              rw [cell_of_row w r1 (0 + k) cs t (0, 0) e2, Nat.zero_add, ← Array.getElem?_toList, e4]
              rw [List.getElem?_append_left (List.getElem?_eq_some_iff.1 hv).1]
              exact hv
            refine gplain Try.func24 rfl (by kernel_rfl) q1 ((of3_any r0 r1 0 _ x y z w hcell hf hne (cell 0 _ rfl) (cell 1 _ rfl) (cell 2 _ rfl)).mono ?_)
            rintro e w' ⟨rfl, hp⟩
            refine ⟨_, rfl, fun ι => by rw [← h2]; exact sy_VR _ _, r0, c0, ?_⟩
            rw [← h1] at hp
            obtain ⟨x, x1, x2⟩ := potW q3 hget hbl hp
            exact ⟨x, hbl, x1, x2⟩
/-- An expression stands for one number alone. -/
theorem Den.one {v : Value} {k : IntKind} {n : Int} (h : Den v k n) : ∀ {l : IntKind} {m : Int}, Den v l m → k = l ∧ n = m := by
  induction h with
  | lit k n => intro l m h'; cases h'; exact ⟨rfl, rfl⟩
  | sym k i => intro l m h'; cases h'; exact ⟨rfl, rfl⟩
  | add _ _ ih1 ih2 => intro l m h'; cases h' with | add a b => obtain ⟨_, h1⟩ := ih1 a; obtain ⟨_, h2⟩ := ih2 b; exact ⟨rfl, by rw [h1, h2]⟩
  | sub _ _ ih1 ih2 => intro l m h'; cases h' with | sub a b => obtain ⟨_, h1⟩ := ih1 a; obtain ⟨_, h2⟩ := ih2 b; exact ⟨rfl, by rw [h1, h2]⟩
  | mul _ _ ih1 ih2 => intro l m h'; cases h' with | mul a b => obtain ⟨_, h1⟩ := ih1 a; obtain ⟨_, h2⟩ := ih2 b; exact ⟨rfl, by rw [h1, h2]⟩
  | max _ _ ih1 ih2 => intro l m h'; cases h' with | max a b => obtain ⟨_, h1⟩ := ih1 a; obtain ⟨_, h2⟩ := ih2 b; exact ⟨rfl, by rw [h1, h2]⟩
  | min _ _ ih1 ih2 => intro l m h'; cases h' with | min a b => obtain ⟨_, h1⟩ := ih1 a; obtain ⟨_, h2⟩ := ih2 b; exact ⟨rfl, by rw [h1, h2]⟩
  | conv _ ih => intro l m h'; cases h' with | conv a => obtain ⟨_, h1⟩ := ih a; exact ⟨rfl, by rw [h1]⟩
theorem Den.only {ι : Io} {v u : Value} {k : IntKind} {n : Int} (h : Den v k n) (hv : VR ι v u) : u = .int k n := by
  have hk : ∀ {w : Value} {l : IntKind} {m : Int}, Den w l m → w = v → u = .int l m → u = .int k n := fun hd e hu => by
    subst e
    obtain ⟨rfl, rfl⟩ := h.one hd
    exact hu
  cases hv with
  | int => exact hk (.lit _ _) rfl rfl
  | sym hd => exact hk hd rfl rfl
  | symB hd => cases hd <;> cases h
  | unk _ => cases h
  | func hn => cases h <;> exact absurd rfl (hn _)
  | _ => cases h
end
end Go.Sim
