/- Part 34 of the proof: Open. -/
import Derived.Test.YtljefjngmembkaaGreatDoorChecked
import Derived.ProofKit
import Derived.ChangeSlices
import Derived.Deep.SlicePairs
import Derived.Lib.SmallJoins
import Derived.Test.YtljefjngmembkaaGreatDoorT11
namespace Go.Proofs.YtljefjngmembkaaGreatDoor
set_option linter.all false
open Go Go.ChangeShapes Go.WideShapes Go.ChangeAt Go.RowKit Go.Deep

section
variable {H : Type} {enc : TypeId × Value → H} {w : World} {base : Nat} {spare : Nat → Bool} {held : Bool}
theorem fld {t : TypeId} {fs : Array Field} {fuel : Nat} {cs : List Value} {x : DataW H × List MemPlace} (ht : Tryz.prog.underlying t = some (.struct fs)) (h : DataW.trod enc Tryz.prog w base spare held fuel t cs = some x) (i : Nat) (f : Field) (hf : fs[i]? = some f) :
    ∃ n y,DataW.trod enc Tryz.prog w base spare held n f.type ((cs.drop f.offset).take (Tryz.prog.cellsOf f.type)) = some y := by
  obtain ⟨xs,n,_,_,_,hl,hg⟩ := DataW.trod_struct ht h
  have := hg i f hf
  have hi : i < xs.length := by rw [hl]; exact (Array.getElem?_eq_some_iff.1 hf).1
  exact ⟨n,xs[i],this.trans (List.getElem?_eq_getElem hi)⟩
theorem oc1 : Tryz.prog.cellsOf 3 = 1 := by kernel_rfl
theorem oc2 : Tryz.prog.cellsOf 23 = 2 := by kernel_rfl
theorem oc6 : Tryz.prog.cellsOf 25 = 6 := by kernel_rfl
theorem oc9 : Tryz.prog.cellsOf 27 = 9 := by kernel_rfl
theorem ocS : Tryz.prog.cellsOf 28 = 1 := by kernel_rfl
theorem oc18 : Tryz.prog.cellsOf 30 = 18 := by kernel_rfl
theorem int_open {fuel : Nat} {x : Value} {z : DataW H × List MemPlace} (h : DataW.trod enc Tryz.prog w base spare held fuel 3 [x] = some z) : ∃ a,x = .int .i64 a ∧ (Lit.int .i64 a).wf = true := by
  obtain ⟨n,e,_,hw⟩ := DataW.trod_int Tryz.underlying3 h
  exact ⟨n,by simpa using e,hw⟩
theorem rng_open {fuel : Nat} {x y : Value} {z : DataW H × List MemPlace} (h : DataW.trod enc Tryz.prog w base spare held fuel 23 [x,y] = some z) : ∃ a b,x = .int .i64 a ∧ y = .int .i64 b := by
  obtain ⟨n0,y0,h0⟩ := fld Tryz.underlying23 h 0 _ rfl
  obtain ⟨n1,y1,h1⟩ := fld Tryz.underlying23 h 1 _ rfl
  simp [oc1] at h0 h1
  obtain ⟨a,rfl,_⟩ := int_open h0
  obtain ⟨b,rfl,_⟩ := int_open h1
  exact ⟨a,b,rfl,rfl⟩
theorem ton_open {fuel : Nat} {c0 c1 c2 c3 c4 c5 : Value} {z : DataW H × List MemPlace} (h : DataW.trod enc Tryz.prog w base spare held fuel 25 [c0,c1,c2,c3,c4,c5] = some z) :
    ∃ a0 a1 a2 a3 a4 a5,c0 = .int .i64 a0 ∧ c1 = .int .i64 a1 ∧ c2 = .int .i64 a2 ∧ c3 = .int .i64 a3 ∧ c4 = .int .i64 a4 ∧ c5 = .int .i64 a5 := by
  obtain ⟨n0,y0,h0⟩ := fld Tryz.underlying25 h 0 _ rfl
  obtain ⟨n1,y1,h1⟩ := fld Tryz.underlying25 h 1 _ rfl
  obtain ⟨n2,y2,h2⟩ := fld Tryz.underlying25 h 2 _ rfl
  simp [oc2] at h0 h1 h2
  obtain ⟨a0,a1,rfl,rfl⟩ := rng_open h0
  obtain ⟨a2,a3,rfl,rfl⟩ := rng_open h1
  obtain ⟨a4,a5,rfl,rfl⟩ := rng_open h2
  exact ⟨a0,a1,a2,a3,a4,a5,rfl,rfl,rfl,rfl,rfl,rfl⟩
theorem file_open {fuel : Nat} {c0 c1 c2 c3 c4 c5 c6 c7 c8 : Value} {z : DataW H × List MemPlace} (h : DataW.trod enc Tryz.prog w base spare held fuel 27 [c0,c1,c2,c3,c4,c5,c6,c7,c8] = some z) :
    ∃ a0 a1 a2 a3 a4 a5 a6 a7 a8,c0 = .int .i64 a0 ∧ c1 = .int .i64 a1 ∧ c2 = .int .i64 a2 ∧ c3 = .int .i64 a3 ∧ c4 = .int .i64 a4 ∧ c5 = .int .i64 a5 ∧ c6 = .int .i64 a6 ∧ c7 = .int .i64 a7 ∧ c8 = .int .i64 a8 := by
  obtain ⟨n0,y0,h0⟩ := fld Tryz.underlying27 h 0 _ rfl
  obtain ⟨n1,y1,h1⟩ := fld Tryz.underlying27 h 1 _ rfl
  obtain ⟨n2,y2,h2⟩ := fld Tryz.underlying27 h 2 _ rfl
  obtain ⟨n3,y3,h3⟩ := fld Tryz.underlying27 h 3 _ rfl
  obtain ⟨n4,y4,h4⟩ := fld Tryz.underlying27 h 4 _ rfl
  simp [oc1,oc2] at h0 h1 h2 h3 h4
  obtain ⟨a0,a1,rfl,rfl⟩ := rng_open h0
  obtain ⟨a2,a3,rfl,rfl⟩ := rng_open h1
  obtain ⟨a4,a5,rfl,rfl⟩ := rng_open h2
  obtain ⟨a6,a7,rfl,rfl⟩ := rng_open h3
  obtain ⟨a8,rfl,_⟩ := int_open h4
  exact ⟨a0,a1,a2,a3,a4,a5,a6,a7,a8,rfl,rfl,rfl,rfl,rfl,rfl,rfl,rfl,rfl⟩
def intV : Value → Int
  | .int _ n => n
  | _ => 0
theorem nospot {W : World} (a : Addr) {k : IntKind} {n : Int} (h0 : W.cell? a = some (.int k n)) : ∃ b o,a = ⟨b,o,none⟩ ∧ b < W.heap.size := by
  obtain ⟨ab,ao,asp⟩ := a
  have hs : asp = none ∧ ab < W.heap.size := by
    unfold World.cell? at h0
    cases hq : W.heap[ab]? with
    | none => simp only [hq] at h0; cases h0
    | some o =>
      refine ⟨?_,(Array.getElem?_eq_some_iff.1 hq).1⟩
      simp only [hq] at h0
      cases o with
      | cells cs t f =>
        cases asp with
        | none => rfl
        | some z => simp at h0
      | _ => simp at h0
  obtain ⟨rfl,hb⟩ := hs
  exact ⟨ab,ao,rfl,hb⟩
theorem add_plain (b o k : Nat) : (⟨b,o,none⟩ : Addr).add k = ⟨b,o + k,none⟩ := by
  unfold Addr.add
  split
  · rename_i hk0; subst hk0; rfl
  · rfl
theorem rgs_open {fuel : Nat} {v : Value} {z : DataW H × List MemPlace} (h : DataW.trod enc Tryz.prog w base spare held fuel 28 [v] = some z) :
    ∃ (a : Option Addr) (n c : Nat) (l : List R2),v = .slice a n c ∧ n = l.length ∧ n ≤ 9223372036854775807 ∧ Rg w w.heap.size a l := by
  rcases open_slice_pairs Tryz.underlying28 Tryz.underlying23 oc2 rfl rfl oc1 oc1 h with ⟨hcs,_⟩ | ⟨a,len,cap,m,n,V0,V1,D0,D1,P0,P1,hcs,_,hl,hm,hmm,_,hx⟩
  · exact ⟨none,0,0,[],by simpa using hcs,rfl,by decide,Rg.nil _ _ _⟩
  · have hv : v = .slice (some a) len cap := by simpa using hcs
    have hlm : len ≤ m := by rw [hmm]; split <;> omega
    refine ⟨some a,len,cap,(List.range len).map fun i => (intV (V0 i),intV (V1 i)),hv,by simp,by unfold maxLen at hm; omega,?_⟩
    intro k x hk
    have hkl : k < len := by simpa using (List.getElem?_eq_some_iff.1 hk).1
    have hx' : x = (intV (V0 k),intV (V1 k)) := by
      rw [List.getElem?_map,List.getElem?_range hkl] at hk
      simpa using hk.symm
    obtain ⟨e0,e1,t0,t1⟩ := hx k (by omega)
    obtain ⟨f0,_,s0,_⟩ := hx 0 (by omega)
    obtain ⟨i0,hi0,_⟩ := int_open t0
    obtain ⟨i1,hi1,_⟩ := int_open t1
    obtain ⟨j0,hj0,_⟩ := int_open s0
    rw [hi0] at e0
    rw [hi1] at e1
    rw [hj0] at f0
    have ez : a.add (0 * 2) = a := rfl
    rw [ez] at f0
    obtain ⟨ab,ao,rfl,hb⟩ := nospot a f0
    rw [add_plain] at e0 e1
    subst hx'
    refine ⟨ab,ao,rfl,hb,?_,?_⟩
    · rw [hi0]; exact e0
    · rw [hi1]; exact e1
set_option maxRecDepth 100000 in
theorem job_open {r : Reach} {b0 : Nat} {v : Value} {d : DataW H} {p : List MemPlace} (hv : Value.okWide Tryz.prog w r b0 30 v) (h : DataW.Trod enc Tryz.prog w base spare held 30 v d p) :
    ∃ (J : Jb) (a : Option Addr) (n c : Nat),v = .agg (jobC J (.slice a n c)) ∧ n = J.sh.length ∧ n ≤ 9223372036854775807 ∧ Rg w w.heap.size a J.sh := by
  obtain ⟨cs,rfl,hsz⟩ := okWide_struct Tryz.underlying30 hv
  obtain ⟨l⟩ := cs
  match l,hsz.trans oc18 with
  | [c0,c1,c2,c3,c4,c5,c6,c7,c8,c9,c10,c11,c12,c13,c14,c15,c16,c17],_ =>
    obtain ⟨fuel,hf⟩ := h
    obtain ⟨n0,y0,h0⟩ := fld Tryz.underlying30 hf 0 _ rfl
    obtain ⟨n1,y1,h1⟩ := fld Tryz.underlying30 hf 1 _ rfl
    obtain ⟨n2,y2,h2⟩ := fld Tryz.underlying30 hf 2 _ rfl
    obtain ⟨n3,y3,h3⟩ := fld Tryz.underlying30 hf 3 _ rfl
    obtain ⟨n4,y4,h4⟩ := fld Tryz.underlying30 hf 4 _ rfl
    simp [oc1,oc6,oc9,ocS,Value.cells] at h0 h1 h2 h3 h4
    obtain ⟨a0,a1,a2,a3,a4,a5,rfl,rfl,rfl,rfl,rfl,rfl⟩ := ton_open h0
    obtain ⟨b0,b1,b2,b3,b4,b5,b6,b7,b8,rfl,rfl,rfl,rfl,rfl,rfl,rfl,rfl,rfl⟩ := file_open h1
    obtain ⟨a,n,c,l,rfl,hn,hm,hrg⟩ := rgs_open h2
    obtain ⟨q,rfl,_⟩ := int_open h3
    obtain ⟨r,rfl,_⟩ := int_open h4
    exact ⟨⟨a0,a1,a2,a3,a4,a5,b0,b1,b2,b3,b4,b5,b6,b7,b8,q,r,l⟩,a,n,c,rfl,hn,hm,hrg⟩
end
end Go.Proofs.YtljefjngmembkaaGreatDoor
