/- Part 33 of the proof: PotG, PBase. -/
import Derived.Test.YtadmcafbffjjbaaB27
import Derived.Test.YtadmcafbffjjbaaB11
import Derived.Test.YtadmcafbffjjbaaB32
import Derived.Test.YtadmcafbffjjbaaB01
/- Pots, as known calls: what a pot hands out is a symbol. -/
namespace Go.Sim
set_option linter.all false
open Go Go.RowKit Go.Proofs Go.Proofs.Ytadmcafbffjjbaa
variable [Rho] [Asm] [SymOK]
noncomputable section

def sy (k : IntKind) (i : Nat) : Value := .func (.yield (nat_lit 0)) ⟨[.int k (.ofNat i)]⟩ ⟨[]⟩
theorem sy_VR {ι : Io} (k : IntKind) (i : Nat) : VR ι (sy k i) (.int k (Rho.ρ i)) := .sym (.sym k i)
theorem sy_inv {ι : Io} {k : IntKind} {i : Nat} {v : Value} (h : VR ι (sy k i) v) : v = .int k (Rho.ρ i) := by
  cases h with
  | func hn => exact absurd rfl (hn _)
  | sym hd => cases hd; rfl
  | symB hd => cases hd

/-- What a known call on a pot comes to, in the machine's memory. -/
theorem potW {P : Program} {ι : Io} {s : St} {w w' : World} {b r c i j : Nat} (hW : WR P ι s w) (hg : s.h.get b = some (.cells [sy .u64 i])) (hb : ι b = some (r,c)) (hp : Put w w' r (Rho.ρ i) (Rho.ρ j)) :
    ∃ x,(∀ ι,OR P ι c (.cells [sy .u64 j]) x) ∧ w'.heap[r]? = some x ∧ w'.os = w.os ∧ w'.tape = w.tape ∧ w'.output = w.output ∧ w.heap.size ≤ w'.heap.size ∧ ∀ k,k < w.heap.size → k ≠ r → w'.heap[k]? = w.heap[k]? := by
  obtain ⟨r',c',x,e1,e2,cs,t,rfl,e3,l',tl,e4,e5⟩ := hW.obj b _ hg
  rw [hb] at e1
  cases e1
  cases e5 with
  | @cons v v' l l' hv hl =>
    cases hl
    have hv := sy_inv hv
    subst hv
    rcases hp with rfl | ⟨rfl,hs⟩
    · refine ⟨.cells (cs.setIfInBounds 0 (.int .u64 (Rho.ρ j))) t (0,0),fun ι => ⟨_,t,rfl,by simpa using e3,[.int .u64 (Rho.ρ j)],tl,?_,.cons (sy_VR _ _) .nil⟩,?_,rfl,rfl,rfl,?_,fun k hk hkr => ?_⟩
      · rw [Array.toList_setIfInBounds,e4]; rfl
      · simp [World.setCell,Array.getElem?_modify,e2]
      · simp [World.setCell]
      · simp [World.setCell,Array.getElem?_modify,Ne.symm hkr]
    · exact ⟨_,fun ι => ⟨cs,t,rfl,e3,[.int .u64 (Rho.ρ j)],tl,by rw [e4,hs],.cons (sy_VR _ _) .nil⟩,e2,rfl,rfl,rfl,Nat.le_refl _,fun k hk hkr => rfl⟩
theorem potCell {P : Program} {ι : Io} {s : St} {w : World} {b r c i : Nat} (hW : WR P ι s w) (hg : s.h.get b = some (.cells [sy .u64 i])) (hb : ι b = some (r,c)) : w.cell? ⟨r,0,none⟩ = some (.int .u64 (Rho.ρ i)) ∧ w.frozen? ⟨r,0,none⟩ = false := by
  obtain ⟨r',c',x,e1,e2,cs,t,rfl,e3,l',tl,e4,e5⟩ := hW.obj b _ hg
  rw [hb] at e1
  cases e1
  cases e5 with
  | @cons v v' l l' hv hl =>
    cases hl
    have hv := sy_inv hv
    subst hv
    refine ⟨?_,?_⟩
    · rw [cell_of_row w r 0 cs t (0,0) e2,← Array.getElem?_toList,e4]; rfl
    · simp [World.frozen?,e2]

def uptoG (n i j r : Nat) (m : Int) : GenW := ⟨⟨(nat_lit 22),[.pointer (some ⟨n,(nat_lit 0),none⟩),.int .i64 m],none,n,[.cells [sy .u64 i]],sy .i64 r⟩,(nat_lit 0),.cells [sy .u64 j]⟩
theorem gwUpto {n i j r : Nat} {m : Int} (hn : (Nat.ble Try.prog.globals.size n && Nat.blt n limH) = true) (hm : m ≤ 1000) (h1 : Rho.ρ j = uptoS (Rho.ρ i) m) (h2 : Rho.ρ r = uptoF (Rho.ρ i) m) : GWFact Try.prog (uptoG n i j r m) := by
  simp only [Bool.and_eq_true] at hn
  refine ⟨⟨Nat.le_of_ble_eq_true hn.1,by have := blt_true hn.2; show n + 1 ≤ limH; omega⟩,fun ι w fv' args' q1 q2 q3 => ?_⟩
  cases q2 with
  | cons ha hb =>
    cases hb with
    | cons hm' hnil =>
      cases hnil
      rw [hm'.intI]
      obtain ⟨r0,c0,rfl,hbl⟩ := ha.ptrI
      have hget : (uptoG n i j r m).g.st.h.get n = some (.cells [sy .u64 i]) := by
        show (layB [.cells [sy .u64 i]] n .e).get n = _
        rw [layB_get (by have := blt_true hn.2; show n + 1 ≤ limH; omega) n,if_pos (by simp)]
        simp
      obtain ⟨hc,hf⟩ := potCell q3 hget hbl
      refine gplain Try.func22 rfl (by kernel_rfl) q1 ((upto_any r0 _ m w hm hc hf).mono ?_)
      rintro e w' ⟨rfl,hp⟩
      refine ⟨_,rfl,fun ι => by rw [← h2]; exact sy_VR _ _,r0,c0,?_⟩
      rw [← h1] at hp
      obtain ⟨x,x1,x2⟩ := potW q3 hget hbl hp
      exact ⟨x,hbl,x1,x2⟩
def ofG (n i j r : Nat) (a b c : Value) : GenW := ⟨⟨(nat_lit 21),[.pointer (some ⟨n,(nat_lit 0),none⟩),.slice (some ⟨n + 1,(nat_lit 0),none⟩) (nat_lit 3) (nat_lit 3)],none,n,[.cells [sy .u64 i],.cells [a,b,c]],sy .i64 r⟩,(nat_lit 0),.cells [sy .u64 j]⟩
theorem gwOf {n i j r : Nat} {a b c : Value} {x y z : Int} (hn : (Nat.ble Try.prog.globals.size n && Nat.blt (n + 1) limH) = true) (ha : Den a .i64 x) (hb : Den b .i64 y) (hc : Den c .i64 z) (h1 : Rho.ρ j = uptoS (Rho.ρ i) 2) (h2 : Rho.ρ r = pick3 x y z (uptoF (Rho.ρ i) 2))
    (hu : ∀ ι v' k n,Den v' k n → ∀ u,VR ι v' u → u = .int k n) : GWFact Try.prog (ofG n i j r a b c) := by
  simp only [Bool.and_eq_true] at hn
  have hlim : n + 2 ≤ limH := by have := blt_true hn.2; omega
  refine ⟨⟨Nat.le_of_ble_eq_true hn.1,hlim⟩,fun ι w fv' args' q1 q2 q3 => ?_⟩
  cases q2 with
  | cons hp hs =>
    cases hs with
    | cons hsl hnil =>
      cases hnil
      obtain ⟨r0,c0,rfl,hbl⟩ := hp.ptrI
      obtain ⟨r1,c1,rfl,hbl1⟩ := hsl.slI (by decide)
      have hget : (ofG n i j r a b c).g.st.h.get n = some (.cells [sy .u64 i]) := by
        show (layB [.cells [sy .u64 i],.cells [a,b,c]] n .e).get n = _
        rw [layB_get hlim n,if_pos (by simp)]
        simp
      have hget1 : (ofG n i j r a b c).g.st.h.get (n + 1) = some (.cells [a,b,c]) := by
        show (layB [.cells [sy .u64 i],.cells [a,b,c]] n .e).get (n + 1) = _
        rw [layB_get hlim (n + 1),if_pos (by simp)]
        simp
      obtain ⟨hcell,hf⟩ := potCell q3 hget hbl
      have hne : r0 ≠ r1 := fun e => by
        subst e
        have := q3.inj n (n + 1) r0 c0 c1 (by rw [hget]; simp) (by rw [hget1]; simp) hbl hbl1
        omega
      obtain ⟨r',c',o,e1,e2,cs,t,rfl,e3,l',tl,e4,e5⟩ := q3.obj _ _ hget1
      rw [hbl1] at e1
      cases e1
      cases e5 with
      | cons v1 e5 => cases e5 with
        | cons v2 e5 => cases e5 with
          | cons v3 e5 =>
            cases e5
            have u1 := hu _ _ _ _ ha _ v1
            have u2 := hu _ _ _ _ hb _ v2
            have u3 := hu _ _ _ _ hc _ v3
            subst u1 u2 u3
            have cell : ∀ k v,[Value.int .i64 x,.int .i64 y,.int .i64 z][k]? = some v → w.cell? ⟨r1,0 + k,none⟩ = some v := fun k v hv => by
              rw [cell_of_row w r1 (0 + k) cs t (0,0) e2,Nat.zero_add,← Array.getElem?_toList,e4]
              rw [List.getElem?_append_left (List.getElem?_eq_some_iff.1 hv).1]
              exact hv
            refine gplain Try.func21 rfl (by kernel_rfl) q1 ((of3_any r0 r1 0 _ x y z w hcell hf hne (cell 0 _ rfl) (cell 1 _ rfl) (cell 2 _ rfl)).mono ?_)
            rintro e w' ⟨rfl,hp⟩
            refine ⟨_,rfl,fun ι => by rw [← h2]; exact sy_VR _ _,r0,c0,?_⟩
            rw [← h1] at hp
            obtain ⟨x,x1,x2⟩ := potW q3 hget hbl hp
            exact ⟨x,hbl,x1,x2⟩
/-- An expression stands for one number alone. -/
theorem Den.one {v : Value} {k : IntKind} {n : Int} (h : Den v k n) : ∀ {l : IntKind} {m : Int},Den v l m → k = l ∧ n = m := by
  induction h with
  | lit k n => intro l m h'; cases h'; exact ⟨rfl,rfl⟩
  | sym k i => intro l m h'; cases h'; exact ⟨rfl,rfl⟩
  | add _ _ ih1 ih2 => intro l m h'; cases h' with | add a b => obtain ⟨_,h1⟩ := ih1 a; obtain ⟨_,h2⟩ := ih2 b; exact ⟨rfl,by rw [h1,h2]⟩
  | sub _ _ ih1 ih2 => intro l m h'; cases h' with | sub a b => obtain ⟨_,h1⟩ := ih1 a; obtain ⟨_,h2⟩ := ih2 b; exact ⟨rfl,by rw [h1,h2]⟩
  | mul _ _ ih1 ih2 => intro l m h'; cases h' with | mul a b => obtain ⟨_,h1⟩ := ih1 a; obtain ⟨_,h2⟩ := ih2 b; exact ⟨rfl,by rw [h1,h2]⟩
  | max _ _ ih1 ih2 => intro l m h'; cases h' with | max a b => obtain ⟨_,h1⟩ := ih1 a; obtain ⟨_,h2⟩ := ih2 b; exact ⟨rfl,by rw [h1,h2]⟩
  | min _ _ ih1 ih2 => intro l m h'; cases h' with | min a b => obtain ⟨_,h1⟩ := ih1 a; obtain ⟨_,h2⟩ := ih2 b; exact ⟨rfl,by rw [h1,h2]⟩
  | conv _ ih => intro l m h'; cases h' with | conv a => obtain ⟨_,h1⟩ := ih a; exact ⟨rfl,by rw [h1]⟩
theorem Den.only {ι : Io} {v u : Value} {k : IntKind} {n : Int} (h : Den v k n) (hv : VR ι v u) : u = .int k n := by
  have hk : ∀ {w : Value} {l : IntKind} {m : Int},Den w l m → w = v → u = .int l m → u = .int k n := fun hd e hu => by
    subst e
    obtain ⟨rfl,rfl⟩ := h.one hd
    exact hu
  cases hv with
  | int => exact hk (.lit _ _) rfl rfl
  | sym hd => exact hk hd rfl rfl
  | symB hd => cases hd <;> cases h
  | unk _ => cases h
  | func hn => cases h <;> exact absurd rfl (hn _)
  | _ => cases h
end
end Go.Sim
/- What the reckoner knows of the example. -/
namespace Go.Proofs.Ytadmcafbffjjbaa
set_option linter.all false
open Go Go.RowKit
theorem tuned_any : TunOK := by
  intro w
  refine (@Sim.closed_any Sim.Rho.zero Sim.Asm.none (@Sim.SymOK.none Sim.Rho.zero) Try.prog 8 0 .e _ _ _ _ (@Sim.root_ok Sim.Rho.zero Sim.Asm.none (@Sim.SymOK.none Sim.Rho.zero)) rfl (by kernel_rfl) (by kernel_rfl) w (Nat.zero_le _) (fun b o hb => by rw [Sim.Tr.get_e] at hb; cases hb) ⟨Nat.zero_le _,fun k _ h => absurd h (Nat.not_lt_zero _)⟩).mono ?_
  rintro e w' ⟨v',ι',rfl,hv,hk⟩
  cases hv
  exact ⟨rfl,hk.os,hk.tape,hk.output,hk.size,hk.heap⟩
end Go.Proofs.Ytadmcafbffjjbaa
