/- Part 2 of the proof: Rnd, BmA, BmC, BmB, GmA, Full, GmM. -/
import Derived.OrdersIn
import Derived.Deep.MidRow
import Derived.Test.YtadmcafbffjjbaaE01
namespace Go.Proofs.Ytadmcafbffjjbaa
set_option linter.all false
open Go.RowKit

theorem rows_wide {n : Nat} {P : Program} {row : String} {args : Array Value} {w : World} {R : Value → World → Prop} (l : Nat) (h : Rows P row args w R) : RowsIn (Fence.wide.inRound l) n P row args w R :=
  fun c cs _ => let ⟨v,w',r,s⟩ := h c cs; ⟨v,w',r,stepsIn_wide.2 s⟩
theorem upon_inRound {n l : Nat} {P : Program} {o : Oper} {a : Act} {K : Act → World → Prop} {Q : Exit → Act → World → Prop} {r : Result Next} (h : o.upon P a K Q r) : o.uponIn (Fence.wide.inRound l) n P a K Q r := by
  cases r with
  | ok x w' =>
    cases x with
    | value v => exact h
    | skip => exact h
    | defer d => exact h
    | enter f args => exact ⟨(fun hx => by cases hx),callsIn_wide.2 h⟩
    | row row args => exact ⟨(fun hx => by cases hx),rows_wide l h⟩
    | _ => exact h.elim
  | halt x w' => cases x <;> exact h
def noDefer (ops : Array Oper) : Bool := ops.toList.all fun o => match o.op with | .defer _ => false | _ => true
theorem noDefer_spec {ops : Array Oper} (h : noDefer ops = true) (i : Nat) (o : Oper) (ho : ops[i]? = some o) (c : Call) : o.op ≠ .defer c := by
  unfold noDefer at h
  rw [List.all_eq_true] at h
  have hm : o ∈ ops.toList := by
    rw [Array.getElem?_eq_some_iff] at ho
    obtain ⟨hi,rfl⟩ := ho
    simp
  have := h o hm
  intro e
  rw [e] at this
  cases this
theorem wpOp_inRound {n l : Nat} {P : Program} {ops : Array Oper} {K : Act → World → Prop} {Q : Exit → Act → World → Prop} {i : Nat} {a : Act} {w : World} (hnd : noDefer ops = true) (hlo : ¬ LetsOut Q) (h : wpOp P ops Q i K a w) : wpOpIn (Fence.wide.inRound l) n P ops Q i K a w := by
  unfold wpOp at h
  unfold wpOpIn
  cases ho : ops[i]? with
  | none => simpa only [ho] using h
  | some o =>
    simp only [ho] at h ⊢
    split
    · rename_i hw
      simp only [hw,if_true] at h
      rcases h with h | ⟨_,h⟩
      · refine ⟨fun _ _ => trivial,?_⟩
        rw [Fence.inRound_round,Oper.semAt_some _ _ _ (noDefer_spec hnd i o ho)]
        exact upon_inRound h
      · exact absurd h hlo
    · rename_i hw
      simp only [hw] at h
      exact ⟨fun _ _ => trivial,h⟩
theorem wpAny_inRound {n l : Nat} {P : Program} {md : Region.Mode} {ops : Array Oper} {Q : Exit → Act → World → Prop} (hnd : noDefer ops = true) (hlo : ¬ LetsOut Q) : ∀ (fuel : Nat) (listed : Array Bool) (a : Act) (w : World),wpAny P md ops Q fuel listed a w → wpAnyIn (Fence.wide.inRound l) n P md ops Q fuel listed a w
  | 0,_,_,_,h => h
  | fuel + 1,listed,a,w,h => ⟨h.1,fun i hi => wpOpIn_mono (fun a' w' h' => wpAny_inRound hnd hlo fuel _ a' w' h') (wpOp_inRound hnd hlo (h.2 i hi))⟩
theorem region_inRound {n l id : Nat} {P : Program} {ops : Array Oper} {Q : Exit → Act → World → Prop} {a : Act} {w : World} (R : Act → World → Prop) (S : World → Prop) (hm : P.follows .mixedOrders = true) (hnd : noDefer ops = true) (hS : S w.drew)
    (h : S w.drew → wpAnyH P .any ops (fun e a' w' => e = .normal ∧ R a' w') S ops.size (Array.replicate ops.size false) a w.drew) (hR : ∀ a' w',R a' w' → Q .normal a' w') : (Code.region id ops true).wpIn (Fence.wide.inRound l) n P Q a w := by
  have hlo : ¬ LetsOut (fun (e : Exit) (a' : Act) (w' : World) => e = .normal ∧ R a' w') := by
    rintro ⟨_,_,hx,_⟩
    cases hx
  refine wpIn_mono (wpIn_region_any hm (wpAny_inRound hnd hlo _ _ _ _ (wpAny_of_held _ _ _ _ (h hS)))) ?_
  rintro e a' w' ⟨rfl,hr⟩
  exact hR a' w' hr
end Go.Proofs.Ytadmcafbffjjbaa
namespace Go.Proofs.Ytadmcafbffjjbaa
set_option linter.all false
open Go.RowKit Go.Shelf

structure Stp (bm g h : Nat) (X Y : World) : Prop where
  os : Y.os = X.os
  tape : Y.tape = X.tape
  output : Y.output = X.output
  size : X.heap.size ≤ Y.heap.size
  same : ∀ i,i < X.heap.size → i ≠ bm → i ≠ g → i ≠ h → Y.heap[i]? = X.heap[i]?
theorem Stp.refl (bm g h : Nat) (X : World) : Stp bm g h X X := ⟨rfl,rfl,rfl,Nat.le_refl _,fun _ _ _ _ _ => rfl⟩
theorem Stp.trans {bm g h : Nat} {X Y Z : World} (a : Stp bm g h X Y) (b : Stp bm g h Y Z) : Stp bm g h X Z :=
  ⟨b.os.trans a.os,b.tape.trans a.tape,b.output.trans a.output,Nat.le_trans a.size b.size,fun i h0 h1 h2 h3 => (b.same i (Nat.lt_of_lt_of_le h0 a.size) h1 h2 h3).trans (a.same i h0 h1 h2 h3)⟩
theorem Stp.grown {bm g h : Nat} {X Y : World} (a : X.grownBy Y (some bm)) : Stp bm g h X Y := ⟨a.os,a.tape,a.output,a.size,fun i h0 h1 _ _ => a.block i h0 (fun e => h1 (by injection e))⟩
theorem Stp.below {bm g h : Nat} {X Y : World} (a : Below X.heap.size X Y) : Stp bm g h X Y := ⟨a.os,a.tape,a.output,a.size,fun i h0 _ _ _ => a.block i h0⟩
theorem Stp.alloc {bm g h : Nat} {X Y : World} (a : Stp bm g h X Y) (o : Obj) : Stp bm g h X (Y.alloc o) := a.trans (.below ((Below.refl _ _).alloc (Nat.le_refl _) _))
theorem Stp.drew {bm g h : Nat} {X Y : World} (a : Stp bm g h X Y) : Stp bm g h X Y.drew := ⟨a.os,a.tape,a.output,a.size,a.same⟩
theorem size_setCell' (w : World) (p : Addr) (v : Value) : (w.setCell p v).heap.size = w.heap.size := by
  have := (Below.refl w.heap.size w)
  unfold World.setCell
  split <;> simp
theorem Stp.cell {bm g h : Nat} {X : World} (p : Addr) (v : Value) (hp : p.block = g ∨ p.block = h) : Stp bm g h X (X.setCell p v) :=
  ⟨by unfold World.setCell; split <;> rfl,by unfold World.setCell; split <;> rfl,by unfold World.setCell; split <;> rfl,by rw [size_setCell']; exact Nat.le_refl _,fun i h0 h1 h2 h3 => Below.heap_setCell X p v i (by rcases hp with e | e <;> omega)⟩
theorem Stp.row {bm g h : Nat} {X : World} (cs : Array Value) (k : Nat) (hk : k = g ∨ k = h) (hl : k < X.heap.size) : Stp bm g h X (X.setRow k cs) :=
  ⟨rfl,rfl,rfl,by simp [World.setRow],fun i h0 h1 h2 h3 => setRow_other X k i cs (by rcases hk with e | e <;> omega)⟩
theorem Stp.bk {bm g h : Nat} {X Y : World} (a : Stp bm g h X Y) {k : Nat} {t : TypeId} {cs : Array Value} (hb : Bk X k t cs) (h1 : k ≠ bm) (h2 : k ≠ g) (h3 : k ≠ h) : Bk Y k t cs := (a.same k hb.lt h1 h2 h3).trans hb
theorem Stp.keeps {bm g h B : Nat} {X Y : World} (a : Stp bm g h X Y) (hbm : bm < B) {t u : TypeId} {cs ds : Array Value} (hg : Bk X g t cs) (hh : Bk X h u ds) : KeepsFrom B X Y :=
  ⟨a.size,fun k o hk ho hc => (a.same k (Array.getElem?_eq_some_iff.1 ho).1 (by omega) (by rintro rfl; rw [show X.heap[k]? = _ from hg] at ho; cases ho; cases hc) (by rintro rfl; rw [show X.heap[k]? = _ from hh] at ho; cases ho; cases hc)).trans ho⟩
theorem Stp.kp {bm g h Bp Bm : Nat} {X Y : World} (a : Stp bm g h X Y) (h1 : Bp < X.heap.size ∧ Bp ≠ bm ∧ Bp ≠ g ∧ Bp ≠ h) (h2 : Bm < X.heap.size ∧ Bm ≠ bm ∧ Bm ≠ g ∧ Bm ≠ h) : KpB Bp Bm X Y :=
  ⟨a.same _ h1.1 h1.2.1 h1.2.2.1 h1.2.2.2,a.same _ h2.1 h2.2.1 h2.2.2.1 h2.2.2.2⟩
structure BS (J : Jb) (s : Value) (bm k : Nat) (t : Tg) (W : World) (g5 g6 g7 g9 : Nat) (m : Int × Int) (w : World) : Prop where
  gr : W.grownBy w (some bm)
  b5 : Bk w g5 91 (knownC t (k + 1))
  b6 : Bk w g6 89 #[.int .i64 0,.int .i64 0]
  b7 : Bk w g7 89 #[.int .i64 m.1,.int .i64 m.2]
  b9 : Bk w g9 104 (jobC (J.setTg t) s)
  lm : bm < W.heap.size
  n5 : W.heap.size ≤ g5
  n6 : W.heap.size ≤ g6
  n7 : W.heap.size ≤ g7
  n9 : W.heap.size ≤ g9
  n67 : g6 ≠ g7
section
variable {J : Jb} {s : Value} {bm k : Nat} {t : Tg} {W w w' : World} {g5 g6 g7 g9 : Nat} {m : Int × Int}
theorem BS.stp (h : BS J s bm k t W g5 g6 g7 g9 m w) {g q : Nat} (a : Stp bm g q w w') (hg : w.heap.size ≤ g ∨ (W.heap.size ≤ g ∧ g ≠ g5 ∧ g ≠ g6 ∧ g ≠ g7 ∧ g ≠ g9)) (hq : w.heap.size ≤ q ∨ (W.heap.size ≤ q ∧ q ≠ g5 ∧ q ≠ g6 ∧ q ≠ g7 ∧ q ≠ g9)) : BS J s bm k t W g5 g6 g7 g9 m w' := by
  have l5 := h.b5.lt
  have l6 := h.b6.lt
  have l7 := h.b7.lt
  have l9 := h.b9.lt
  have e1 := h.n5
  have e2 := h.n6
  have e3 := h.n7
  have e4 := h.n9
  have e0 := h.lm
  have hz := h.gr.size
  exact ⟨⟨a.os.trans h.gr.os,a.tape.trans h.gr.tape,a.output.trans h.gr.output,Nat.le_trans h.gr.size a.size,fun i hi hne => (a.same i (by omega) (fun e => hne (by rw [e])) (by omega) (by omega)).trans (h.gr.block i hi hne)⟩,
    a.bk h.b5 (by omega) (by omega) (by omega),a.bk h.b6 (by omega) (by omega) (by omega),a.bk h.b7 (by omega) (by omega) (by omega),a.bk h.b9 (by omega) (by omega) (by omega),h.lm,h.n5,h.n6,h.n7,h.n9,h.n67⟩
theorem BS.below (h : BS J s bm k t W g5 g6 g7 g9 m w) (hb : Below w.heap.size w w') : BS J s bm k t W g5 g6 g7 g9 m w' := h.stp (g := w.heap.size) (q := w.heap.size) (.below hb) (.inl (Nat.le_refl _)) (.inl (Nat.le_refl _))
theorem BS.grown (h : BS J s bm k t W g5 g6 g7 g9 m w) (hb : w.grownBy w' (some bm)) : BS J s bm k t W g5 g6 g7 g9 m w' := h.stp (g := w.heap.size) (q := w.heap.size) (.grown hb) (.inl (Nat.le_refl _)) (.inl (Nat.le_refl _))
theorem BS.own (h : BS J s bm k t W g5 g6 g7 g9 m w) {row : Option Nat} (hg : w.grownBy w' row) (hr : ∀ r,row = some r → W.heap.size ≤ r ∧ ∃ o : Obj,w.heap[r]? = some o ∧ o.isCells = false) : BS J s bm k t W g5 g6 g7 g9 m w' := by
  have ne : ∀ {x : Nat} {u : TypeId} {cs : Array Value},Bk w x u cs → some x ≠ row := by
    intro x u cs hx e
    obtain ⟨_,o,ho,hc⟩ := hr x e.symm
    rw [show w.heap[x]? = _ from hx] at ho
    cases ho
    cases hc
  refine ⟨⟨hg.os.trans h.gr.os,hg.tape.trans h.gr.tape,hg.output.trans h.gr.output,Nat.le_trans h.gr.size hg.size,fun i hi hne => (hg.block i (Nat.lt_of_lt_of_le hi h.gr.size) (fun e => ?_)).trans (h.gr.block i hi hne)⟩,h.b5.grown hg (ne h.b5),h.b6.grown hg (ne h.b6),h.b7.grown hg (ne h.b7),h.b9.grown hg (ne h.b9),h.lm,h.n5,h.n6,h.n7,h.n9,h.n67⟩
  have := (hr i e.symm).1
  omega
theorem BS.move (h : BS J s bm k t W g5 g6 g7 g9 m w) (x : Int × Int) : BS J s bm k t W g5 g6 g7 g9 x (w.setRow g7 #[.int .i64 x.1,.int .i64 x.2]) := by
  have l7 := h.b7.lt
  have e0 := h.lm
  have e3 := h.n7
  have a : Stp bm g7 g7 w (w.setRow g7 #[.int .i64 x.1,.int .i64 x.2]) := .row _ _ (.inl rfl) l7
  have d5 : g5 ≠ g7 := by rintro rfl; have := h.b5; rw [show Bk w g5 _ _ = _ from rfl] at this; have h7 := h.b7; unfold Bk at this h7; rw [h7] at this; simp [knownC] at this
  have d9 : g9 ≠ g7 := by rintro rfl; have := h.b9; have h7 := h.b7; unfold Bk at this h7; rw [h7] at this; simp [jobC] at this
  exact ⟨⟨a.os.trans h.gr.os,a.tape.trans h.gr.tape,a.output.trans h.gr.output,Nat.le_trans h.gr.size a.size,fun i hi hne => (a.same i (by have := h.gr.size; omega) (fun e => hne (by rw [e])) (by omega) (by omega)).trans (h.gr.block i hi hne)⟩,
    a.bk h.b5 (by have := h.n5; omega) d5 d5,a.bk h.b6 (by have := h.n6; omega) h.n67 h.n67,h.b7.row _,a.bk h.b9 (by have := h.n9; omega) d9 d9,h.lm,h.n5,h.n6,h.n7,h.n9,h.n67⟩
end
def DS (lo hi : Nat) (ds : List Deferred) (w : World) : Prop := (∀ d ∈ ds,∃ D,d = { target := .collected D,args := #[] } ∧ lo ≤ D ∧ D < hi ∧ w.heap[D]? = some (.deferred (some []))) ∧ ds.Pairwise (fun a b => a ≠ b)
theorem DS.own {lo hi : Nat} {ds : List Deferred} {w w' : World} {row : Option Nat} (h : DS lo hi ds w) (hg : w.grownBy w' row) (hr : ∀ r,row = some r → hi ≤ r) : DS lo hi ds w' := ⟨fun d hd => by
  obtain ⟨D,e,h1,h2,h3⟩ := h.1 d hd
  exact ⟨D,e,h1,h2,(hg.block D (Array.getElem?_eq_some_iff.1 h3).1 (fun e' => by have := hr D e'.symm; omega)).trans h3⟩,h.2⟩
theorem DS.stp {lo hi bm g q : Nat} {ds : List Deferred} {w w' : World} (h : DS lo hi ds w) (a : Stp bm g q w w') {t u : TypeId} {cs es : Array Value} (hbm : bm < lo) (hg : Bk w g t cs) (hq : Bk w q u es) : DS lo hi ds w' := ⟨fun d hd => by
  obtain ⟨D,e,h1,h2,h3⟩ := h.1 d hd
  exact ⟨D,e,h1,h2,(a.same D (Array.getElem?_eq_some_iff.1 h3).1 (by omega) (by rintro rfl; rw [show w.heap[D]? = _ from hg] at h3; cases h3) (by rintro rfl; rw [show w.heap[D]? = _ from hq] at h3; cases h3)).trans h3⟩,h.2⟩
end Go.Proofs.Ytadmcafbffjjbaa
namespace Go.Proofs.Ytadmcafbffjjbaa
set_option linter.all false
open Go.RowKit
def sndB : Code → Code
  | .seq _ b => b
  | c => c
def unscope : Code → Code
  | .scope c => c
  | c => c
noncomputable def bmbody : Code := unscope (sndB (Try.f77.body.getD .skip))
noncomputable def bmrest1 : Code := sndB bmbody
noncomputable def bmrest2 : Code := sndB bmrest1
noncomputable def bmrest3 : Code := sndB bmrest2
noncomputable def bmrest4 : Code := sndB bmrest3
noncomputable def bmrest5 : Code := sndB bmrest4
noncomputable def bmrest6 : Code := sndB bmrest5
noncomputable def bmrest7 : Code := sndB bmrest6
noncomputable def bmrest8 : Code := sndB bmrest7
noncomputable def bmrest9 : Code := sndB bmrest8
noncomputable def bmrest10 : Code := sndB bmrest9
set_option maxRecDepth 1000000 in
theorem bmbody_eq : bmbody = .seq (.seq (Code.region 1 #[⟨some 15,.load 23 (.tmp 1),23,"game.go:91",#[],none⟩,⟨some 16,.fieldAddr 91 (.tmp 5) 0,0,"game.go:91",#[],none⟩,⟨some 17,.fieldAddr 25 (.tmp 16) 0,0,"game.go:91",#[⟨1,.data⟩],none⟩,⟨some 18,.load 23 (.tmp 17),23,"game.go:91",#[⟨2,.data⟩],none⟩,⟨some 19,.call { callee := .value (.func 78),args := #[.tmp 15,.tmp 18],argTypes := #[23,23] },4,"game.go:91",#[⟨0,.data⟩,⟨3,.data⟩],none⟩] false) (.cond (.tmp 19) (.seq (Code.region 2 #[⟨some 20,.build 89 #[],89,"game.go:92",#[],none⟩,⟨none,.store 89 (.tmp 6) (.tmp 20),0,"game.go:92",#[⟨0,.data⟩,⟨0,.phase⟩],none⟩] false) .ret) .skip)) bmrest1 := by kernel_rfl
set_option maxRecDepth 1000000 in
theorem bmrest1_eq : bmrest1 = .seq (.seq (Code.region 3 #[⟨some 21,.fieldAddr 91 (.tmp 5) 1,0,"game.go:94",#[],none⟩,⟨some 22,.load 3 (.tmp 21),3,"game.go:94",#[⟨0,.data⟩],none⟩,⟨some 23,.binOp .eql 3 (.tmp 22) (.const (.int .i64 0)) 3,4,"game.go:94",#[⟨1,.data⟩],none⟩] false) (.cond (.tmp 23) (.seq (Code.region 4 #[⟨some 24,.build 89 #[(1,.const (.int .i64 5))],89,"game.go:95",#[],none⟩,⟨none,.store 89 (.tmp 6) (.tmp 24),0,"game.go:95",#[⟨0,.data⟩,⟨0,.phase⟩],none⟩] false) .ret) .skip)) bmrest2 := by kernel_rfl
set_option maxRecDepth 1000000 in
theorem bmrest2_eq : bmrest2 = .seq (Code.region 5 #[⟨some 26,.load 122 (.tmp 2),122,"game.go:97",#[],none⟩,⟨some 27,.load 91 (.tmp 5),91,"game.go:97",#[],none⟩,⟨some 28,.lookup 122 (.tmp 26) (.tmp 27) true,123,"game.go:97",#[⟨0,.data⟩,⟨1,.data⟩],none⟩,⟨some 25,.move (.tmp 28),123,"game.go:97",#[⟨2,.data⟩],none⟩,⟨some 29,.extract (.tmp 25) 0,89,"game.go:97",#[⟨3,.data⟩],none⟩,⟨some 30,.extract (.tmp 25) 1,4,"game.go:97",#[⟨3,.data⟩,⟨7,.gcOnly .lateStores⟩],none⟩,⟨some 7,.alloc 89,0,"game.go:97",#[],none⟩,⟨none,.store 89 (.tmp 7) (.tmp 29),0,"game.go:97",#[⟨6,.data⟩,⟨4,.data⟩,⟨0,.phase⟩,⟨1,.phase⟩,⟨2,.phase⟩,⟨3,.phase⟩,⟨4,.phase⟩,⟨5,.textOnly .lateStores⟩,⟨6,.phase⟩],none⟩,⟨some 8,.assign (.tmp 30),4,"game.go:97",#[⟨5,.data⟩,⟨7,.chain⟩,⟨0,.phase⟩,⟨1,.phase⟩,⟨2,.phase⟩,⟨3,.phase⟩,⟨4,.phase⟩,⟨5,.phase⟩,⟨6,.phase⟩,⟨7,.phase⟩],none⟩] false) bmrest3 := by kernel_rfl
set_option maxRecDepth 1000000 in
theorem bmrest3_eq : bmrest3 = .seq (.seq (Code.region 6 #[⟨some 31,.move (.tmp 8),4,"game.go:98",#[],none⟩] false) (.cond (.tmp 31) (.seq (Code.region 7 #[⟨some 32,.load 89 (.tmp 7),89,"game.go:99",#[],none⟩,⟨none,.store 89 (.tmp 6) (.tmp 32),0,"game.go:99",#[⟨0,.data⟩,⟨0,.phase⟩],none⟩] false) .ret) .skip)) bmrest4 := by kernel_rfl
set_option maxRecDepth 1000000 in
theorem bmrest4_eq : bmrest4 = .seq (Code.region 8 #[⟨some 33,.build 89 #[(1,.const (.int .i64 5))],89,"game.go:101",#[],none⟩,⟨none,.store 89 (.tmp 7) (.tmp 33),0,"game.go:101",#[⟨0,.data⟩,⟨0,.phase⟩],none⟩] false) bmrest5 := by kernel_rfl
set_option maxRecDepth 1000000 in
theorem bmrest5_eq : bmrest5 = .seq (Code.region 9 #[⟨some 34,.load 30 (.tmp 3),30,"game.go:102",#[],none⟩,⟨some 35,.build 104 #[(0,.tmp 34)],104,"game.go:102",#[⟨0,.data⟩],none⟩,⟨some 9,.alloc 104,0,"game.go:102",#[],none⟩,⟨none,.store 104 (.tmp 9) (.tmp 35),0,"game.go:102",#[⟨2,.data⟩,⟨1,.data⟩,⟨0,.phase⟩,⟨1,.phase⟩,⟨2,.phase⟩],none⟩] false) bmrest6 := by kernel_rfl
set_option maxRecDepth 1000000 in
theorem bmrest6_eq : bmrest6 = .seq (Code.region 10 #[⟨some 36,.fieldAddr 91 (.tmp 5) 0,0,"game.go:103",#[],none⟩,⟨some 37,.load 25 (.tmp 36),25,"game.go:103",#[⟨0,.data⟩],none⟩,⟨some 38,.fieldAddr 104 (.tmp 9) 0,0,"game.go:103",#[⟨0,.phase⟩,⟨1,.phase⟩],none⟩,⟨some 39,.fieldAddr 30 (.tmp 38) 0,0,"game.go:103",#[⟨2,.data⟩,⟨0,.phase⟩,⟨1,.phase⟩],none⟩,⟨none,.store 25 (.tmp 39) (.tmp 37),0,"game.go:103",#[⟨3,.data⟩,⟨1,.data⟩,⟨0,.phase⟩,⟨1,.phase⟩],none⟩] false) bmrest7 := by kernel_rfl
set_option maxRecDepth 1000000 in
theorem bmrest7_eq : bmrest7 = .seq (.label 0) bmrest8 := by kernel_rfl
set_option maxRecDepth 1000000 in
theorem bmrest9_eq : bmrest9 = .seq (Code.region 24 #[⟨some 84,.load 122 (.tmp 2),122,"game.go:120",#[],none⟩,⟨some 85,.load 91 (.tmp 5),91,"game.go:120",#[],none⟩,⟨some 86,.load 89 (.tmp 7),89,"game.go:120",#[],none⟩,⟨none,.mapUpdate 122 (.tmp 84) (.tmp 85) (.tmp 86),0,"game.go:120",#[⟨0,.data⟩,⟨1,.data⟩,⟨2,.data⟩,⟨0,.phase⟩,⟨1,.phase⟩,⟨2,.phase⟩],none⟩] false) bmrest10 := by kernel_rfl
set_option maxRecDepth 1000000 in
theorem bmrest10_eq : bmrest10 = .seq (Code.region 25 #[⟨some 87,.load 89 (.tmp 7),89,"game.go:121",#[],none⟩,⟨none,.store 89 (.tmp 6) (.tmp 87),0,"game.go:121",#[⟨0,.data⟩,⟨0,.phase⟩],none⟩] false) .ret := by kernel_rfl
noncomputable def blkB : Code → Option Code
  | .block 1 c => some c
  | .block _ c => blkB c
  | .seq a b => match blkB a with
    | some c => some c
    | none => blkB b
  | .loop c => blkB c
  | _ => none
noncomputable def rfB : Code → Option (Code × Code)
  | .rangeFunc _ _ a b => some (a,b)
  | .block _ c => rfB c
  | .seq a b => match rfB a with
    | some c => some c
    | none => rfB b
  | .loop c => rfB c
  | _ => none
noncomputable def mb0 : Code := (blkB bmrest8).getD .skip
noncomputable def mb1 : Code := sndB mb0
noncomputable def mb2 : Code := sndB mb1
noncomputable def mb3 : Code := sndB mb2
noncomputable def mb4 : Code := sndB mb3
noncomputable def rfa : Code := ((rfB mb4).getD (.skip,.skip)).1
noncomputable def rfb : Code := ((rfB mb4).getD (.skip,.skip)).2
set_option maxRecDepth 1000000 in
theorem mb0_eq : mb0 = .seq (Code.region 13 #[⟨some 43,.index 124 (.tmp 40) (.tmp 41),3,"game.go:105",#[],none⟩,⟨some 11,.assign (.tmp 43),3,"game.go:105",#[⟨0,.data⟩,⟨0,.phase⟩],none⟩] false) mb1 := by kernel_rfl
set_option maxRecDepth 1000000 in
theorem mb1_eq : mb1 = .seq (Code.region 14 #[⟨some 44,.load 104 (.tmp 9),104,"game.go:106",#[],none⟩,⟨some 45,.move (.tmp 11),3,"game.go:106",#[],none⟩,⟨some 46,.buildSlice 31 1 #[(0,.tmp 45)],31,"game.go:106",#[⟨1,.data⟩],none⟩,⟨some 47,.call { callee := .value (.func 72),args := #[.tmp 44,.tmp 46],argTypes := #[104,31] },104,"game.go:106",#[⟨0,.data⟩,⟨2,.data⟩],none⟩,⟨some 12,.alloc 104,0,"game.go:106",#[],none⟩,⟨none,.store 104 (.tmp 12) (.tmp 47),0,"game.go:106",#[⟨4,.data⟩,⟨3,.data⟩,⟨3,.chain⟩,⟨0,.phase⟩,⟨1,.phase⟩,⟨2,.phase⟩,⟨3,.phase⟩,⟨4,.phase⟩],none⟩] false) mb2 := by kernel_rfl
set_option maxRecDepth 1000000 in
theorem mb2_eq : mb2 = .seq (.seq (Code.region 15 #[⟨some 48,.load 104 (.tmp 12),104,"game.go:107",#[],none⟩,⟨some 49,.call { callee := .value (.func 62),args := #[.tmp 48],argTypes := #[104] },3,"game.go:107",#[⟨0,.data⟩],none⟩,⟨some 50,.binOp .neq 3 (.tmp 49) (.const (.int .i64 2)) 3,4,"game.go:107",#[⟨1,.data⟩],none⟩] false) (.cond (.tmp 50) (.exit 1) .skip)) mb3 := by kernel_rfl
set_option maxRecDepth 1000000 in
theorem mb3_eq : mb3 = .seq (Code.region 16 #[⟨some 13,.alloc 3,0,"game.go:110",#[],none⟩,⟨none,.store 3 (.tmp 13) (.const (.int .i64 0)),0,"game.go:110",#[⟨0,.data⟩,⟨0,.phase⟩],none⟩] false) mb4 := by kernel_rfl
set_option maxRecDepth 1000000 in
theorem mb4_eq : mb4 = .seq (.seq (Code.region 17 #[⟨some 51,.fieldAddr 104 (.tmp 12) 0,0,"game.go:111",#[],none⟩,⟨some 52,.fieldAddr 30 (.tmp 51) 0,0,"game.go:111",#[⟨0,.data⟩],none⟩,⟨some 53,.fieldAddr 25 (.tmp 52) 0,0,"game.go:111",#[⟨1,.data⟩],none⟩,⟨some 54,.load 23 (.tmp 53),23,"game.go:111",#[⟨2,.data⟩],none⟩,⟨some 55,.fieldAddr 30 (.tmp 3) 4,0,"game.go:111",#[],none⟩,⟨some 56,.load 3 (.tmp 55),3,"game.go:111",#[⟨4,.data⟩],none⟩,⟨some 57,.call { callee := .value (.func 49),args := #[.tmp 54,.tmp 56],argTypes := #[23,3] },86,"game.go:111",#[⟨3,.data⟩,⟨5,.data⟩],none⟩] false) (.block 2 (.rangeFunc (.tmp 57) #[58] rfa rfb))) (Code.region 22 #[⟨some 80,.move (.tmp 11),3,"game.go:118",#[],none⟩,⟨some 81,.load 3 (.tmp 13),3,"game.go:118",#[],none⟩,⟨some 82,.build 89 #[(0,.tmp 80),(1,.tmp 81)],89,"game.go:118",#[⟨0,.data⟩,⟨1,.data⟩],none⟩,⟨none,.store 89 (.tmp 7) (.tmp 82),0,"game.go:118",#[⟨2,.data⟩,⟨0,.phase⟩,⟨1,.phase⟩,⟨2,.phase⟩],none⟩] false) := by kernel_rfl
set_option maxRecDepth 1000000 in
theorem rfa_eq : rfa = (Code.region 18 #[⟨some 14,.alloc 23,0,"game.go:111",#[],none⟩,⟨none,.store 23 (.tmp 14) (.tmp 58),0,"game.go:111",#[⟨0,.data⟩,⟨0,.phase⟩],none⟩] false) := by kernel_rfl
set_option maxRecDepth 1000000 in
theorem rfb_eq : rfb = (.block 3 (.seq (Code.region 19 #[⟨some 59,.load 23 (.tmp 14),23,"game.go:112",#[],none⟩,⟨some 60,.fieldAddr 104 (.tmp 12) 0,0,"game.go:112",#[⟨0,.phase⟩],none⟩,⟨some 61,.fieldAddr 30 (.tmp 60) 0,0,"game.go:112",#[⟨1,.data⟩,⟨0,.phase⟩],none⟩,⟨some 62,.fieldAddr 25 (.tmp 61) 0,0,"game.go:112",#[⟨2,.data⟩,⟨0,.phase⟩],none⟩,⟨none,.store 23 (.tmp 62) (.tmp 59),0,"game.go:112",#[⟨3,.data⟩,⟨0,.data⟩,⟨0,.phase⟩],none⟩] false) (.seq (Code.region 20 #[⟨some 63,.load 3 (.tmp 13),3,"game.go:113",#[],none⟩,⟨some 64,.load 83 (.tmp 4),83,"game.go:113",#[],none⟩,⟨some 65,.fieldAddr 104 (.tmp 12) 0,0,"game.go:113",#[],none⟩,⟨some 66,.fieldAddr 30 (.tmp 65) 0,0,"game.go:113",#[⟨2,.data⟩],none⟩,⟨some 67,.load 25 (.tmp 66),25,"game.go:113",#[⟨3,.data⟩],none⟩,⟨some 68,.fieldAddr 91 (.tmp 5) 1,0,"game.go:113",#[],none⟩,⟨some 69,.load 3 (.tmp 68),3,"game.go:113",#[⟨5,.data⟩],none⟩,⟨some 70,.binOp .sub 3 (.tmp 69) (.const (.int .i64 1)) 3,3,"game.go:113",#[⟨6,.data⟩],none⟩,⟨some 71,.build 91 #[(0,.tmp 67),(1,.tmp 70)],91,"game.go:113",#[⟨4,.data⟩,⟨7,.data⟩],none⟩,⟨some 72,.call { callee := .value (.tmp 64),args := #[.tmp 71],argTypes := #[91] },89,"game.go:113",#[⟨1,.data⟩,⟨8,.data⟩],none⟩,⟨some 73,.field 89 (.tmp 72) 1,3,"game.go:113",#[⟨9,.data⟩],none⟩,⟨some 74,.binOp .add 3 (.const (.int .i64 1)) (.tmp 73) 3,3,"game.go:113",#[⟨10,.data⟩],none⟩,⟨some 75,.call { callee := .builtin .max,args := #[.tmp 63,.tmp 74],argTypes := #[3,3] },3,"game.go:113",#[⟨0,.data⟩,⟨11,.data⟩],none⟩,⟨none,.store 3 (.tmp 13) (.tmp 75),0,"game.go:113",#[⟨12,.data⟩,⟨9,.chain⟩,⟨0,.phase⟩,⟨1,.phase⟩,⟨2,.phase⟩,⟨3,.phase⟩,⟨4,.phase⟩,⟨5,.phase⟩,⟨6,.phase⟩,⟨7,.phase⟩,⟨8,.phase⟩,⟨9,.phase⟩,⟨10,.phase⟩,⟨11,.phase⟩,⟨12,.phase⟩],none⟩] true) (.seq (Code.region 21 #[⟨some 76,.load 3 (.tmp 13),3,"game.go:114",#[],none⟩,⟨some 77,.fieldAddr 89 (.tmp 7) 1,0,"game.go:114",#[],none⟩,⟨some 78,.load 3 (.tmp 77),3,"game.go:114",#[⟨1,.data⟩],none⟩,⟨some 79,.binOp .geq 3 (.tmp 76) (.tmp 78) 3,4,"game.go:114",#[⟨0,.data⟩,⟨2,.data⟩],none⟩] false) (.cond (.tmp 79) (.exit 1) .skip))))) := by kernel_rfl
set_option maxRecDepth 1000000 in
theorem bmrest8_cut : bmrest8 = .seq (.seq (Code.region 11 #[⟨some 40,.build 124 #[(0,.const (.int .i64 1)),(1,.const (.int .i64 2))],124,"game.go:105",#[],none⟩,⟨some 41,.move (.const (.int .i64 0)),3,"game.go:105",#[],none⟩] false) (.block 0 (.loop (.seq (Code.region 12 #[⟨some 42,.binOp .lss 3 (.tmp 41) (.const (.int .i64 2)) 3,0,"game.go:105",#[],none⟩] false) (.seq (.cond (.tmp 42) .skip (.exit 0)) (.seq (.block 1 mb0) (Code.region 23 #[⟨some 83,.binOp .add 3 (.tmp 41) (.const (.int .i64 1)) 3,3,"game.go:105",#[],none⟩,⟨some 41,.move (.tmp 83),3,"game.go:105",#[⟨0,.data⟩],none⟩] false))))))) bmrest9 := by kernel_rfl
end Go.Proofs.Ytadmcafbffjjbaa
namespace Go.Proofs.Ytadmcafbffjjbaa
set_option linter.all false
open Go.RowKit Go.Shelf
def tgV6 (t : Tg) : Array Value := #[.int .i64 t.p1,.int .i64 t.p2,.int .i64 t.t1,.int .i64 t.t2,.int .i64 t.r1,.int .i64 t.r2]
def TgIn (k : Nat) (t : Tg) : Prop := t.In (148 - 12 * k) ∧ t.p1 ≤ t.p2
def BestOK (J : Jb) (s : Value) (Bw Bf Bj Bb bm k : Nat) : Prop := ∀ (t : Tg) (cnt : Nat) (W : World),Env J s Bw Bf Bj Bb bm W → Memo J W bm cnt → TgIn k t → cnt + cost k ≤ 1000000000000000 →
  Calls Try.prog 77 #[.agg #[.int .i64 t.p1,.int .i64 t.p2,.int .i64 t.t1,.int .i64 t.t2,.int .i64 t.r1,.int .i64 t.r2,.int .i64 (k : Int)],.pointer (some ⟨Bw,0,none⟩),.pointer (some ⟨Bf,0,none⟩),.pointer (some ⟨Bj,0,none⟩),.pointer (some ⟨Bb,0,none⟩)] W (BestEnd J k t bm cnt W)
def wv (J : Jb) (k : Nat) (T : Tg) (pre : List R2) : Int := worstOf (fun t => (bestM J k t).2) T pre
theorem wv_snoc (J : Jb) (k : Nat) (T : Tg) (pre : List R2) (x : R2) : wv J k T (pre ++ [x]) = mx (wv J k T pre) (1 + (bestM J k { T with p1 := x.1,p2 := x.2 }).2) := by simp [wv,worstOf]
theorem fold_le (g : R2 → Int) : ∀ (l : List R2) (a : Int),a ≤ l.foldl (fun m r => mx m (g r)) a
  | [],a => Int.le_refl _
  | r :: l,a => by
    have := fold_le g l (mx a (g r))
    rw [List.foldl_cons]
    have h2 : a ≤ mx a (g r) := by unfold mx; split <;> omega
    omega
theorem fold_top (g : R2 → Int) (b : Int) (hg : ∀ r,g r ≤ b) : ∀ (l : List R2) (a : Int),a ≤ b → l.foldl (fun m r => mx m (g r)) a ≤ b
  | [],a,h => h
  | r :: l,a,h => by
    rw [List.foldl_cons]
    refine fold_top g b hg l _ ?_
    have := hg r
    unfold mx; split <;> omega
theorem wv_nn (J : Jb) (k : Nat) (T : Tg) (pre : List R2) : 0 ≤ wv J k T pre := fold_le _ _ _
theorem choose_le (J : Jb) (g : Tg → Int) (t : Tg) (m : Int × Int) (s : Int) (h : 0 ≤ m.2) : 0 ≤ (choose J g t m s).2 ∧ (choose J g t m s).2 ≤ m.2 := by
  unfold choose
  split
  · exact ⟨h,Int.le_refl _⟩
  · split
    · exact ⟨h,Int.le_refl _⟩
    · rename_i h2
      exact ⟨fold_le _ _ _,by show worstOf _ _ _ ≤ _; omega⟩
theorem best_bound (J : Jb) : ∀ (k : Nat) (t : Tg),0 ≤ (bestM J k t).2 ∧ (bestM J k t).2 ≤ 5
  | 0,t => by unfold bestM; split <;> simp
  | k + 1,t => by
    unfold bestM
    split
    · simp
    · have h1 := choose_le J (fun t => (bestM J k t).2) t (0,5) 1 (by decide)
      have h2 := choose_le J (fun t => (bestM J k t).2) t _ 2 h1.1
      have h3 : ((0 : Int),(5 : Int)).2 = 5 := rfl
      exact ⟨h2.1,by omega⟩
theorem wv_top (J : Jb) (k : Nat) (T : Tg) (pre : List R2) : wv J k T pre ≤ 6 := fold_top _ _ (fun r => by have := (best_bound J k { T with p1 := r.1,p2 := r.2 }).2; show 1 + (bestM J k { T with p1 := r.1,p2 := r.2 }).2 ≤ 6; omega) _ _ (by decide)
theorem tg_row {w : World} {g : Nat} {J : Jb} {s : Value} {t : TypeId} (h : Bk w g t (jobC J s)) : w.rangeAt g 0 (tgV6 J.tg).toList := fun j v hv => by
  have hj : j < 6 := (List.getElem?_eq_some_iff.1 hv).1
  rcases (by omega : j = 0 ∨ j = 1 ∨ j = 2 ∨ j = 3 ∨ j = 4 ∨ j = 5) with rfl | rfl | rfl | rfl | rfl | rfl <;> (cases hv; exact h.at_ _ _ rfl)
theorem yields_midB {P : Program} {ops : Array Oper} {S : World → Prop} {op : Oper} {a : Act} (hw : Region.wanted op (yielded ops a.tmps) = true) (ty : TypeId) (x : Operand) (ho : op.op = .load ty x)
    (b o : Nat) (hx : a.eval x = .pointer (some ⟨b,o,none⟩)) (cs : Array Value) (d : TypeDesc) (hS : ∀ w,S w → w.rangeAt b o cs.toList)
    (hu : P.underlying ty = some d) (hd : d.isRow = true) (hi : (P.info? ty).map (·.size) = some cs.size) : YieldsIf P ops S op (.agg cs) a := by
  have := yieldsIf_load_mid (P := P) (ops := ops) (S := S) hw ty x ho b o hx cs.toList d hS hu hd (by rw [Array.length_toList]; exact hi)
  rw [Array.toArray_toList] at this
  exact this
structure IR (J : Jb) (s : Value) (bm k : Nat) (t : Tg) (W : World) (g5 g6 g7 g9 : Nat) (m : Int × Int) (T : Tg) (g12 g13 c lo hi : Nat) (ds : List Deferred) (pre : List R2) (X : World) : Prop where
  bs : BS J s bm k t W g5 g6 g7 g9 m X
  ds : DS lo hi ds X
  memo : ∃ c',c' ≤ c + pre.length * cost k ∧ Memo J X bm c'
  next : ∃ p1 p2,Bk X g12 104 (jobC (J.setTg { T with p1 := p1,p2 := p2 }) s)
  val : Bk X g13 3 #[.int .i64 (wv J k T pre)]
  less : pre = [] ∨ wv J k T pre < m.2
structure IX (J : Jb) (s : Value) (bm k : Nat) (t : Tg) (W : World) (g5 g6 g7 g9 : Nat) (m : Int × Int) (T : Tg) (c lo hi : Nat) (ds : List Deferred) (cd : Code) (pre : List R2) (X : World) : Prop where
  out : cd = .exit 1
  more : m.2 ≤ wv J k T pre
  bs : BS J s bm k t W g5 g6 g7 g9 m X
  ds : DS lo hi ds X
  memo : ∃ c',c' ≤ c + pre.length * cost k ∧ Memo J X bm c'
structure SR (J : Jb) (s : Value) (Bw Bf Bj Bb bm k : Nat) (t : Tg) (W : World) (g5 g6 g7 g9 : Nat) (m : Int × Int) (T : Tg) (g12 g13 c lo hi : Nat) (ds : List Deferred) (x : R2) (X0 : World) (X : World) : Prop where
  stp : Stp bm g12 g13 X0 X
  bs : BS J s bm k t W g5 g6 g7 g9 m X
  ds : DS lo hi ds X
  memo : ∃ c',c' ≤ c ∧ Memo J X bm c'
  next : Bk X g12 104 (jobC (J.setTg { T with p1 := x.1,p2 := x.2 }) s)
  val : ∃ z,Bk X g13 3 #[z]
end Go.Proofs.Ytadmcafbffjjbaa
namespace Go.Proofs.Ytadmcafbffjjbaa
set_option linter.all false
theorem choose_w {J : Jb} {f : Tg → Int} {t : Tg} {m : Int × Int} {s : Int} (h : spoilI J.le (strk J t s) = 2) : (choose J f t m s).2 ≤ worstOf f (strk J t s) (readsL (strk J t s).p1 (strk J t s).p2 J.me) := by
  unfold choose
  rw [if_neg (by rw [h]; simp)]
  split
  · assumption
  · exact Int.le_refl _
theorem choose_top {J : Jb} {f : Tg → Int} {t : Tg} {m : Int × Int} {s : Int} : (choose J f t m s).2 ≤ m.2 := by
  unfold choose
  split
  · exact Int.le_refl _
  · split
    · exact Int.le_refl _
    · rename_i h; show worstOf _ _ _ ≤ _; omega
theorem choose_one (J : Jb) (f : Tg → Int) (t : Tg) (m : Int × Int) (s : Int) : (choose J f t m s) = m ∨ (spoilI J.le (strk J t s) = 2 ∧ choose J f t m s = (s,worstOf f (strk J t s) (readsL (strk J t s).p1 (strk J t s).p2 J.me)) ∧ worstOf f (strk J t s) (readsL (strk J t s).p1 (strk J t s).p2 J.me) < m.2) := by
  unfold choose
  by_cases h : spoilI J.le (strk J t s) = 2
  · rw [if_neg (by rw [h]; simp)]
    split
    · exact .inl rfl
    · exact .inr ⟨h,rfl,by omega⟩
  · rw [if_pos h]; exact .inl rfl
theorem worst_le {f : Tg → Int} {t : Tg} {l : List R2} {b : Int} (h0 : 0 ≤ b) (h : ∀ r ∈ l,1 + f { t with p1 := r.1,p2 := r.2 } ≤ b) : worstOf f t l ≤ b := by
  unfold worstOf
  have aux : ∀ (l : List R2) (a : Int),a ≤ b → (∀ r ∈ l,1 + f { t with p1 := r.1,p2 := r.2 } ≤ b) → l.foldl (fun m r => mx m (1 + f { t with p1 := r.1,p2 := r.2 })) a ≤ b := by
    intro l
    induction l with
    | nil => intro a ha _; exact ha
    | cons r l ih =>
      intro a ha hh
      rw [List.foldl_cons]
      refine ih _ ?_ fun r' hr' => hh r' (List.mem_cons_of_mem _ hr')
      have := hh r List.mem_cons_self
      unfold mx; split <;> omega
  exact aux l 0 h0 h
theorem worst_ge {f : Tg → Int} {t : Tg} {l : List R2} {r : R2} (h : r ∈ l) : 1 + f { t with p1 := r.1,p2 := r.2 } ≤ worstOf f t l := by
  unfold worstOf
  have aux : ∀ (l : List R2) (a : Int),r ∈ l → 1 + f { t with p1 := r.1,p2 := r.2 } ≤ l.foldl (fun m r => mx m (1 + f { t with p1 := r.1,p2 := r.2 })) a := by
    intro l
    induction l with
    | nil => intro a h; cases h
    | cons x l ih =>
      intro a hh
      rw [List.foldl_cons]
      rcases List.mem_cons.1 hh with rfl | hh
      · refine Int.le_trans ?_ (fold_le _ l _)
        unfold mx; split <;> omega
      · exact ih _ hh
  exact aux l 0 h
theorem guide_nn (J : Jb) : 0 ≤ guideI J := fold_le _ _ _
theorem guide_top (J : Jb) : guideI J ≤ 5 := fold_top _ _ (fun r => (best_bound J 4 _).2) _ _ (by decide)
theorem best_in {J : Jb} {k : Nat} {t : Tg} (h : (win J.wi J.sh).1 ≤ t.p1 ∧ t.p2 ≤ (win J.wi J.sh).2) : bestM J k t = (0,0) := by
  cases k <;> (unfold bestM; rw [if_pos h])
theorem best_out {J : Jb} {k : Nat} {t : Tg} (h : ¬ ((win J.wi J.sh).1 ≤ t.p1 ∧ t.p2 ≤ (win J.wi J.sh).2)) : bestM J (k + 1) t = choose J (fun t => (bestM J k t).2) t (choose J (fun t => (bestM J k t).2) t (0,5) 1) 2 := by
  conv => lhs; unfold bestM
  rw [if_neg h]
theorem spoil_2 {le : Int} {t : Tg} : spoilI le t = 2 ↔ (le ≤ t.t1 ∧ le ≤ t.r1 ∧ le ≤ t.t2 ∧ le ≤ t.r2) := by
  unfold spoilI
  split
  · constructor
    · intro h; cases h
    · intro h; omega
  · split
    · constructor
      · intro _; omega
      · intro _; rfl
    · constructor
      · intro h; cases h
      · intro h; omega
end Go.Proofs.Ytadmcafbffjjbaa
namespace Go.Proofs.Ytadmcafbffjjbaa
set_option linter.all false
structure Jb.Full (J : Jb) : Prop where
  p : -60 ≤ J.p1 ∧ J.p1 ≤ J.p2 ∧ J.p2 ≤ 60
  t : 0 ≤ J.t1 ∧ J.t1 ≤ J.t2 ∧ J.t2 ≤ 100
  r : 0 ≤ J.r1 ∧ J.r1 ≤ J.r2 ∧ J.r2 ≤ 100
  u : 0 ≤ J.u1 ∧ J.u1 ≤ J.u2 ∧ J.u2 ≤ 12
  d : 0 ≤ J.d1 ∧ J.d1 ≤ J.d2 ∧ J.d2 ≤ 12
  x : 0 ≤ J.x1 ∧ J.x1 ≤ J.x2 ∧ J.x2 ≤ 12
  y : 0 ≤ J.y1 ∧ J.y1 ≤ J.y2 ∧ J.y2 ≤ 12
  le : 0 ≤ J.le ∧ J.le ≤ 100
  wi : 0 ≤ J.wi ∧ J.wi ≤ 60
  me : 0 ≤ J.me ∧ J.me ≤ 6
  len : J.sh.length ≤ 4
  sh : ∀ s ∈ J.sh,-60 ≤ s.1 ∧ s.1 ≤ s.2 ∧ s.2 ≤ 60
theorem rngE_mk {a b lo hi : Int} (h : lo ≤ a ∧ a ≤ b ∧ b ≤ hi) : rngE a b lo hi = 0 := by
  unfold rngE
  rw [if_neg (by omega),if_neg (by omega),if_neg (by omega)]
theorem numE_mk {a lo hi : Int} (h : lo ≤ a ∧ a ≤ hi) : numE a lo hi = 0 := by
  unfold numE
  rw [if_neg (by omega)]
theorem shE_mk : ∀ (l : List R2),(∀ s ∈ l,-60 ≤ s.1 ∧ s.1 ≤ s.2 ∧ s.2 ≤ 60) → shE l = 0
  | [],_ => rfl
  | e :: l,h => by
    unfold shE
    rw [if_pos (rngE_mk (h e List.mem_cons_self))]
    exact shE_mk l fun x hx => h x (List.mem_cons_of_mem _ hx)
theorem check_full {J : Jb} (h : J.check = 0) : J.Full := by
  unfold Jb.check at h
  by_cases h0 : J.head = 0
  · rw [if_pos h0] at h
    by_cases h1 : 4 < J.sh.length
    · rw [if_pos h1] at h; omega
    · rw [if_neg h1] at h
      by_cases h2 : shE J.sh = 0
      · rw [if_pos h2] at h
        have a := firstE_ok _ h0
        have b := firstE_ok _ h
        have s := shE_ok _ h2
        have a1 := rngE_ok (a _ (by simp : rngE J.p1 J.p2 (-60) 60 ∈ _))
        have a2 := rngE_ok (a _ (by simp : rngE J.t1 J.t2 0 100 ∈ _))
        have a3 := rngE_ok (a _ (by simp : rngE J.r1 J.r2 0 100 ∈ _))
        have a4 := rngE_ok (a _ (by simp : rngE J.u1 J.u2 0 12 ∈ _))
        have a5 := rngE_ok (a _ (by simp : rngE J.d1 J.d2 0 12 ∈ _))
        have a6 := rngE_ok (a _ (by simp : rngE J.x1 J.x2 0 12 ∈ _))
        have a7 := rngE_ok (a _ (by simp : rngE J.y1 J.y2 0 12 ∈ _))
        have a8 := numE_ok (a _ (by simp : numE J.le 0 100 ∈ _))
        have b1 := numE_ok (b _ (by simp : numE J.wi 0 60 ∈ _))
        have b2 := numE_ok (b _ (by simp : numE J.me 0 6 ∈ _))
        refine ⟨by omega,by omega,by omega,by omega,by omega,by omega,by omega,a8,b1,b2,by omega,fun q hq => ?_⟩
        have := rngE_ok (s q hq)
        omega
      · rw [if_neg h2] at h; exact absurd h h2
  · rw [if_neg h0] at h; exact absurd h h0
theorem Jb.Full.check {J : Jb} (h : J.Full) : J.check = 0 := by
  unfold Jb.check
  have h0 : J.head = 0 := by
    unfold Jb.head
    rw [rngE_mk h.p,rngE_mk h.t,rngE_mk h.r,rngE_mk h.u,rngE_mk h.d,rngE_mk h.x,rngE_mk h.y,numE_mk h.le]
    rfl
  rw [if_pos h0,if_neg (by have := h.len; omega),if_pos (shE_mk _ h.sh),numE_mk h.wi,numE_mk h.me]
  rfl
end Go.Proofs.Ytadmcafbffjjbaa
namespace Go.Proofs.Ytadmcafbffjjbaa
set_option linter.all false
theorem best_stroke {J : Jb} {k : Nat} {t : Tg} {s : Int} (h12 : s = 1 ∨ s = 2) (hw : ¬ ((win J.wi J.sh).1 ≤ t.p1 ∧ t.p2 ≤ (win J.wi J.sh).2)) (hs : spoilI J.le (strk J t s) = 2) :
    (bestM J (k + 1) t).2 ≤ worstOf (fun t => (bestM J k t).2) (strk J t s) (readsL (strk J t s).p1 (strk J t s).p2 J.me) := by
  rw [best_out hw]
  rcases h12 with rfl | rfl
  · exact Int.le_trans choose_top (choose_w hs)
  · exact choose_w hs
theorem best_cases {J : Jb} {k : Nat} {t : Tg} (hw : ¬ ((win J.wi J.sh).1 ≤ t.p1 ∧ t.p2 ≤ (win J.wi J.sh).2)) :
    bestM J (k + 1) t = (0,5) ∨ ∃ s : Int,(s = 1 ∨ s = 2) ∧ spoilI J.le (strk J t s) = 2 ∧ bestM J (k + 1) t = (s,worstOf (fun t => (bestM J k t).2) (strk J t s) (readsL (strk J t s).p1 (strk J t s).p2 J.me)) ∧ (bestM J (k + 1) t).2 < 5 := by
  rw [best_out hw]
  rcases choose_one J (fun t => (bestM J k t).2) t (choose J (fun t => (bestM J k t).2) t (0,5) 1) 2 with e | ⟨hs,e,hlt⟩
  · rw [e]
    rcases choose_one J (fun t => (bestM J k t).2) t (0,5) 1 with e1 | ⟨hs,e1,hlt⟩
    · exact .inl e1
    · exact .inr ⟨1,.inl rfl,hs,e1,by rw [e1]; exact hlt⟩
  · refine .inr ⟨2,.inr rfl,hs,e,?_⟩
    have := choose_top (J := J) (f := fun t => (bestM J k t).2) (t := t) (m := (0,5)) (s := 1)
    rw [e]
    simp only at this hlt ⊢
    omega
end Go.Proofs.Ytadmcafbffjjbaa
