/- Part 30 of the proof: StkA. -/
import Derived.Deep.WholeRow
import Derived.Test.YtdficjnnlaicpaaT24
import Derived.Test.YtdficjnnlaicpaaT29
import Derived.Test.YtdficjnnlaicpaaT27
import Derived.Test.YtdficjnnlaicpaaT26
/- The law ReedStrokes: its code in parts, and what stands between them. -/
namespace Go.Proofs.Ytdficjnnlaicpaa
set_option linter.all false
open Go.RowKit
noncomputable def slbody : Code := Try.f4.body.getD .skip
noncomputable def slrest1 : Code := sndC slbody
noncomputable def slrest2 : Code := sndC slrest1
noncomputable def slrest3 : Code := sndC slrest2
noncomputable def slrest4 : Code := sndC slrest3
noncomputable def slrest5 : Code := sndC slrest4
noncomputable def slrest6 : Code := sndC slrest5
noncomputable def slrest7 : Code := sndC slrest6
noncomputable def slrest8 : Code := sndC slrest7
noncomputable def slrest9 : Code := sndC slrest8
set_option maxRecDepth 1000000 in
theorem slbody_eq : slbody = .seq (Code.region 0 #[⟨some 5, .box 30 (.tmp 0), 0, "law.go:47", #[], none⟩, ⟨some 10, .assign (.const (.bool false)), 4, "law.go:47", #[], none⟩] false) slrest1 := by kernel_rfl
set_option maxRecDepth 1000000 in
theorem slrest1_eq : slrest1 = .seq (.seq (Code.region 1 #[⟨some 36, .fieldAddr 30 (.tmp 5) 2, 0, "law.go:48", #[], none⟩, ⟨some 37, .load 28 (.tmp 36), 28, "law.go:48", #[⟨0, .data⟩], none⟩, ⟨some 38, .call { callee := .builtin .len, args := #[.tmp 37], argTypes := #[28] }, 3, "law.go:48", #[⟨1, .data⟩], none⟩, ⟨some 39, .binOp .gtr 3 (.tmp 38) (.const (.int .i64 20)) 3, 4, "law.go:48", #[⟨2, .data⟩], none⟩, ⟨some 40, .move (.tmp 39), 4, "law.go:48", #[⟨3, .data⟩], none⟩, ⟨some 41, .move (.tmp 1), 31, "law.go:48", #[⟨4, .guard⟩], some (4, false)⟩, ⟨some 42, .call { callee := .builtin .len, args := #[.tmp 41], argTypes := #[31] }, 3, "law.go:48", #[⟨5, .data⟩, ⟨4, .guard⟩], some (4, false)⟩, ⟨some 43, .binOp .gtr 3 (.tmp 42) (.const (.int .i64 20)) 3, 4, "law.go:48", #[⟨6, .data⟩, ⟨4, .guard⟩], some (4, false)⟩, ⟨some 44, .pick (.tmp 40) (.const (.bool true)) (.tmp 43), 4, "law.go:48", #[⟨4, .data⟩, ⟨7, .data⟩], none⟩] false) (.cond (.tmp 44) (.seq (Code.region 2 #[⟨some 45, .call { callee := .value (.func 5), args := #[], argTypes := #[] }, 4, "law.go:49", #[], none⟩, ⟨some 10, .assign (.tmp 45), 4, "law.go:49", #[⟨0, .data⟩, ⟨0, .chain⟩, ⟨0, .phase⟩], none⟩] false) .ret) .skip)) slrest2 := by kernel_rfl
set_option maxRecDepth 1000000 in
theorem slrest2_eq : slrest2 = .seq (Code.region 3 #[⟨some 46, .move (.tmp 4), 31, "law.go:51", #[], none⟩, ⟨some 47, .call { callee := .value (.func 6), args := #[.tmp 46], argTypes := #[31] }, 33, "law.go:51", #[⟨0, .data⟩], none⟩, ⟨some 11, .assign (.tmp 47), 33, "law.go:51", #[⟨1, .data⟩, ⟨1, .chain⟩, ⟨0, .phase⟩, ⟨1, .phase⟩], none⟩] false) slrest3 := by kernel_rfl
set_option maxRecDepth 1000000 in
theorem slrest3_eq : slrest3 = .seq (Code.region 4 #[⟨some 48, .move (.tmp 11), 33, "law.go:52", #[], none⟩, ⟨some 49, .call { callee := .value (.func 7), args := #[.tmp 48, .const (.int .i64 9), .const (.int .i64 4)], argTypes := #[33, 3, 3] }, 30, "law.go:52", #[⟨0, .data⟩], none⟩, ⟨some 12, .alloc 30, 0, "law.go:52", #[], none⟩, ⟨none, .store 30 (.tmp 12) (.tmp 49), 0, "law.go:52", #[⟨2, .data⟩, ⟨1, .data⟩, ⟨1, .chain⟩, ⟨0, .phase⟩, ⟨1, .phase⟩, ⟨2, .phase⟩], none⟩] false) slrest4 := by kernel_rfl
set_option maxRecDepth 1000000 in
theorem slrest4_eq : slrest4 = .seq (Code.region 5 #[⟨some 50, .move (.tmp 11), 33, "law.go:53", #[], none⟩, ⟨some 51, .call { callee := .value (.func 19), args := #[.tmp 50, .const (.int .i64 6)], argTypes := #[33, 3] }, 31, "law.go:53", #[⟨0, .data⟩], none⟩, ⟨some 13, .assign (.tmp 51), 31, "law.go:53", #[⟨1, .data⟩, ⟨1, .chain⟩, ⟨0, .phase⟩, ⟨1, .phase⟩], none⟩] false) slrest5 := by kernel_rfl
set_option maxRecDepth 1000000 in
theorem slrest5_eq : slrest5 = .seq (Code.region 6 #[⟨some 52, .move (.tmp 3), 3, "law.go:54", #[], none⟩, ⟨some 53, .buildSlice 31 1 #[(0, .tmp 52)], 31, "law.go:54", #[⟨0, .data⟩], none⟩, ⟨some 54, .move (.tmp 13), 31, "law.go:54", #[], none⟩, ⟨some 55, .call { callee := .builtin .append, args := #[.tmp 53, .tmp 54], argTypes := #[31, 31] }, 31, "law.go:54", #[⟨1, .data⟩, ⟨2, .data⟩], none⟩, ⟨some 14, .assign (.tmp 55), 31, "law.go:54", #[⟨3, .data⟩, ⟨3, .chain⟩, ⟨0, .phase⟩, ⟨1, .phase⟩, ⟨2, .phase⟩, ⟨3, .phase⟩], none⟩] false) slrest6 := by kernel_rfl
set_option maxRecDepth 1000000 in
theorem slrest6_eq : slrest6 = .seq (Code.region 7 #[⟨some 56, .move (.tmp 14), 31, "law.go:55", #[], none⟩, ⟨some 57, .move (.tmp 14), 31, "law.go:55", #[⟨17, .gcOnly .lateStores⟩], none⟩, ⟨some 58, .move (.tmp 2), 3, "law.go:55", #[], none⟩, ⟨some 59, .move (.tmp 14), 31, "law.go:55", #[], none⟩, ⟨some 60, .call { callee := .builtin .len, args := #[.tmp 59], argTypes := #[31] }, 3, "law.go:55", #[⟨3, .data⟩], none⟩, ⟨some 61, .call { callee := .value (.func 20), args := #[.tmp 58, .tmp 60], argTypes := #[3, 3] }, 3, "law.go:55", #[⟨2, .data⟩, ⟨4, .data⟩], none⟩, ⟨some 62, .move (.tmp 14), 31, "law.go:55", #[], none⟩, ⟨some 63, .move (.tmp 2), 3, "law.go:55", #[], none⟩, ⟨some 64, .move (.tmp 14), 31, "law.go:55", #[], none⟩, ⟨some 65, .call { callee := .builtin .len, args := #[.tmp 64], argTypes := #[31] }, 3, "law.go:55", #[⟨8, .data⟩], none⟩, ⟨some 66, .call { callee := .value (.func 20), args := #[.tmp 63, .tmp 65], argTypes := #[3, 3] }, 3, "law.go:55", #[⟨7, .data⟩, ⟨9, .data⟩, ⟨5, .chain⟩], none⟩, ⟨some 67, .indexAddr 31 (.tmp 62) (.tmp 66), 0, "law.go:55", #[⟨6, .data⟩, ⟨10, .data⟩], none⟩, ⟨some 68, .load 3 (.tmp 67), 3, "law.go:55", #[⟨11, .data⟩], none⟩, ⟨some 69, .move (.tmp 14), 31, "law.go:55", #[], none⟩, ⟨some 70, .indexAddr 31 (.tmp 69) (.const (.int .i64 0)), 0, "law.go:55", #[⟨13, .data⟩], none⟩, ⟨some 71, .load 3 (.tmp 70), 3, "law.go:55", #[⟨14, .data⟩], none⟩, ⟨some 72, .indexAddr 31 (.tmp 56) (.const (.int .i64 0)), 0, "law.go:55", #[⟨0, .data⟩, ⟨0, .phase⟩, ⟨1, .textOnly .lateStores⟩, ⟨2, .textOnly .lateStores⟩, ⟨3, .textOnly .lateStores⟩, ⟨4, .textOnly .lateStoresUnsure⟩, ⟨5, .phase⟩, ⟨6, .phase⟩, ⟨7, .phase⟩, ⟨8, .phase⟩, ⟨9, .phase⟩, ⟨10, .phase⟩, ⟨11, .phase⟩, ⟨12, .phase⟩, ⟨13, .textOnly .lateStores⟩, ⟨14, .textOnly .lateStoresUnsure⟩, ⟨15, .phase⟩], none⟩, ⟨none, .store 3 (.tmp 72) (.tmp 68), 0, "law.go:55", #[⟨16, .data⟩, ⟨12, .data⟩, ⟨10, .chain⟩, ⟨0, .phase⟩, ⟨1, .textOnly .lateStores⟩, ⟨2, .textOnly .lateStores⟩, ⟨3, .textOnly .lateStores⟩, ⟨4, .textOnly .lateStoresUnsure⟩, ⟨5, .phase⟩, ⟨6, .phase⟩, ⟨7, .phase⟩, ⟨8, .phase⟩, ⟨9, .phase⟩, ⟨10, .phase⟩, ⟨11, .phase⟩, ⟨12, .phase⟩, ⟨13, .textOnly .lateStores⟩, ⟨14, .textOnly .lateStoresUnsure⟩, ⟨15, .phase⟩], none⟩, ⟨some 73, .indexAddr 31 (.tmp 57) (.tmp 61), 0, "law.go:55", #[⟨1, .data⟩, ⟨5, .data⟩, ⟨0, .phase⟩, ⟨1, .phase⟩, ⟨2, .phase⟩, ⟨3, .phase⟩, ⟨4, .phase⟩, ⟨5, .phase⟩, ⟨6, .phase⟩, ⟨7, .phase⟩, ⟨8, .phase⟩, ⟨9, .phase⟩, ⟨10, .phase⟩, ⟨11, .phase⟩, ⟨12, .phase⟩, ⟨13, .phase⟩, ⟨14, .phase⟩, ⟨15, .phase⟩, ⟨16, .phase⟩, ⟨17, .phase⟩], none⟩, ⟨none, .store 3 (.tmp 73) (.tmp 71), 0, "law.go:55", #[⟨18, .data⟩, ⟨15, .data⟩, ⟨17, .chain⟩, ⟨0, .phase⟩, ⟨1, .phase⟩, ⟨2, .phase⟩, ⟨3, .phase⟩, ⟨4, .phase⟩, ⟨5, .phase⟩, ⟨6, .phase⟩, ⟨7, .phase⟩, ⟨8, .phase⟩, ⟨9, .phase⟩, ⟨10, .phase⟩, ⟨11, .phase⟩, ⟨12, .phase⟩, ⟨13, .phase⟩, ⟨14, .phase⟩, ⟨15, .phase⟩, ⟨16, .phase⟩, ⟨17, .phase⟩], none⟩] true) slrest7 := by kernel_rfl
set_option maxRecDepth 1000000 in
theorem slrest7_eq : slrest7 = .seq (Code.region 8 #[⟨some 74, .load 30 (.tmp 5), 30, "law.go:56", #[], none⟩, ⟨some 75, .load 30 (.tmp 12), 30, "law.go:56", #[], none⟩, ⟨some 76, .load 30 (.tmp 12), 30, "law.go:56", #[], none⟩, ⟨some 77, .load 30 (.tmp 12), 30, "law.go:56", #[], none⟩, ⟨some 78, .load 30 (.tmp 5), 30, "law.go:56", #[], none⟩, ⟨some 79, .buildSlice 37 5 #[(0, .tmp 74), (1, .tmp 75), (2, .tmp 76), (3, .tmp 77), (4, .tmp 78)], 37, "law.go:56", #[⟨0, .data⟩, ⟨1, .data⟩, ⟨2, .data⟩, ⟨3, .data⟩, ⟨4, .data⟩], none⟩, ⟨some 80, .move (.tmp 1), 31, "law.go:56", #[⟨12, .gcOnly .lateStores⟩], none⟩, ⟨some 81, .move (.tmp 13), 31, "law.go:56", #[⟨12, .gcOnly .lateStores⟩], none⟩, ⟨some 82, .move (.tmp 14), 31, "law.go:56", #[⟨12, .gcOnly .lateStores⟩], none⟩, ⟨some 83, .move (.tmp 1), 31, "law.go:56", #[⟨12, .gcOnly .lateStores⟩], none⟩, ⟨some 84, .move (.tmp 13), 31, "law.go:56", #[⟨12, .gcOnly .lateStores⟩], none⟩, ⟨some 85, .buildSlice 49 5 #[(0, .tmp 80), (1, .tmp 81), (2, .tmp 82), (3, .tmp 83), (4, .tmp 84)], 49, "law.go:56", #[⟨6, .data⟩, ⟨7, .data⟩, ⟨8, .data⟩, ⟨9, .data⟩, ⟨10, .data⟩, ⟨12, .gcOnly .lateStores⟩], none⟩, ⟨some 15, .assign (.tmp 79), 37, "law.go:56", #[⟨5, .data⟩, ⟨0, .phase⟩, ⟨1, .phase⟩, ⟨2, .phase⟩, ⟨3, .phase⟩, ⟨4, .phase⟩, ⟨5, .phase⟩, ⟨6, .textOnly .lateStores⟩, ⟨7, .textOnly .lateStores⟩, ⟨8, .textOnly .lateStores⟩, ⟨9, .textOnly .lateStores⟩, ⟨10, .textOnly .lateStores⟩, ⟨11, .textOnly .lateStores⟩], none⟩, ⟨some 16, .assign (.tmp 85), 49, "law.go:56", #[⟨11, .data⟩, ⟨12, .chain⟩, ⟨0, .phase⟩, ⟨1, .phase⟩, ⟨2, .phase⟩, ⟨3, .phase⟩, ⟨4, .phase⟩, ⟨5, .phase⟩, ⟨6, .phase⟩, ⟨7, .phase⟩, ⟨8, .phase⟩, ⟨9, .phase⟩, ⟨10, .phase⟩, ⟨11, .phase⟩, ⟨12, .phase⟩], none⟩] false) slrest8 := by kernel_rfl
set_option maxRecDepth 1000000 in
theorem slrest9_eq : slrest9 = .seq (Code.region 23 #[⟨some 230, .call { callee := .value (.func 5), args := #[], argTypes := #[] }, 4, "law.go:71", #[], none⟩, ⟨some 10, .assign (.tmp 230), 4, "law.go:71", #[⟨0, .data⟩, ⟨0, .chain⟩, ⟨0, .phase⟩], none⟩] false) .ret := by kernel_rfl

def TunOK : Prop := ∀ w : World, Calls Try.prog 5 #[] w fun e w' => e = .returned (.bool true) ∧ Below w.heap.size w w'
def TunF : Prop := TunOK ∧ FineOK
/-- What JobOf is known to hand back. -/
def JobP9 (b : Nat) (w : World) (e : Ending) (w' : World) : Prop :=
  ∃ (J : Jb) (a : Option Addr) (n c : Nat), e = .returned (.agg (jobC J (.slice a n c))) ∧ n = J.sh.length ∧ Rg w' w'.heap.size a J.sh ∧ J.check = 0 ∧ PB b w.heap.size w w' ∧ Pt w' b
def JobOK : Prop := ∀ (b : Nat) (w : World), Pt w b → Calls Try.prog 7 #[.pointer (some ⟨b, 0, none⟩), .int .i64 9, .int .i64 4] w (JobP9 b w)
def QSL (w0 : World) : Exit → Act → World → Prop := bodyPost Try.prog Try.f4 fun e w' => e = .returned (.bool true) ∧ Below w0.heap.size w0 w'
/-- A job and where its shifts lie. -/
structure Ent where
  J : Jb
  a : Option Addr
  n : Nat
  c : Nat
def Ent.V (e : Ent) : Array Value := jobC e.J (.slice e.a e.n e.c)
theorem Ent.V_len (e : Ent) : e.V.toList.length = 18 := rfl
/-- A list of strokes and where it lies. -/
structure Lst where
  l : List Int
  a : Option Addr
  n : Nat
  c : Nat
def Lst.V (x : Lst) : Value := .slice x.a x.n x.c
theorem flat_at {α β : Type} (F : α → List β) (hF : ∀ x, (F x).length = 18) : ∀ (es : List α) (k : Nat) (e : α), es[k]? = some e → ∀ (j : Nat) (v : β), (F e)[j]? = some v → (es.flatMap F)[k * 18 + j]? = some v
  | e0 :: es, 0, e, h, j, v, hv => by
    obtain rfl : e0 = e := by simpa using h
    have hj := (List.getElem?_eq_some_iff.1 hv).1
    rw [List.flatMap_cons, Nat.zero_mul, Nat.zero_add, List.getElem?_append_left hj]
    exact hv
  | e0 :: es, k + 1, e, h, j, v, hv => by
    have ih := flat_at F hF es k e (by simpa using h) j v hv
    rw [List.flatMap_cons, List.getElem?_append_right (by rw [hF]; omega), hF]
    have : (k + 1) * 18 + j - 18 = k * 18 + j := by omega
    rw [this]
    exact ih
/-- The jobs and the strokes that the law goes through. -/
structure SL (w0 w1 : World) (g q : Nat) (es : List Ent) (ls : List Lst) : Prop where
  b0 : Below w0.heap.size w0 w1
  arr : Bk w1 g 30 (es.flatMap fun e => e.V.toList).toArray
  lar : Bk w1 q 31 (ls.map Lst.V).toArray
  len : es.length = 5
  llen : ls.length = 5
  each : ∀ e ∈ es, Rg w1 w1.heap.size e.a e.J.sh ∧ e.n = e.J.sh.length ∧ e.n ≤ 30
  lach : ∀ x ∈ ls, Is w1 w1.heap.size x.a x.l ∧ x.n = x.l.length ∧ x.n ≤ 30
structure S0 (w0 w : World) (g5 : Nat) (J : Jb) (a : Option Addr) (n c : Nat) (sa : Option Addr) (sn : Nat) (sl : List Int) (atv : Int) (na : Option Addr) (nn : Nat) (nl : List Int) : Prop where
  b0 : Below w0.heap.size w0 w
  job : Bk w g5 30 (jobC J (.slice a n c))
  rg : Rg w w.heap.size a J.sh
  en : n = J.sh.length
  nm : n ≤ 9223372036854775807
  st : Is w w.heap.size sa sl
  se : sn = sl.length
  sm : sn ≤ 9223372036854775807
  ar : -9223372036854775808 ≤ atv ∧ atv ≤ 9223372036854775807
  nums : Is w w.heap.size na nl
  nln : nn = nl.length ∧ nn ≤ 9223372036854775807
structure S4 (w0 w : World) (g5 g12 b : Nat) (J M : Jb) (a : Option Addr) (n c : Nat) (ma : Option Addr) (mn mc : Nat) (sa : Option Addr) (sn : Nat) (sl : List Int) : Prop where
  b0 : Below w0.heap.size w0 w
  hb : w0.heap.size ≤ b
  pt : Pt w b
  job : Bk w g5 30 (jobC J (.slice a n c))
  rg : Rg w w.heap.size a J.sh
  en : n = J.sh.length
  n20 : n ≤ 20
  mj : Bk w g12 30 (jobC M (.slice ma mn mc))
  mg : Rg w w.heap.size ma M.sh
  me : mn = M.sh.length
  ck : M.check = 0
  st : Is w w.heap.size sa sl
  se : sn = sl.length
  s20 : sn ≤ 20
section
variable {w0 w w' : World} {g5 g12 b : Nat} {J M : Jb} {a : Option Addr} {n c : Nat} {ma : Option Addr} {mn mc : Nat} {sa : Option Addr} {sn : Nat} {sl : List Int}
theorem S4.next (h : S4 w0 w g5 g12 b J M a n c ma mn mc sa sn sl) (hb : Below w.heap.size w w') : S4 w0 w' g5 g12 b J M a n c ma mn mc sa sn sl :=
  ⟨h.b0.trans (hb.mono h.b0.size), h.hb, h.pt.below hb h.pt.lt, h.job.below hb h.job.lt, h.rg.up hb, h.en, h.n20, h.mj.below hb h.mj.lt, h.mg.up hb, h.me, h.ck, h.st.up hb, h.se, h.s20⟩
theorem Pt.ne {g : Nat} {t : TypeId} {cs : Array Value} (h : Pt w b) (hk : Bk w g t cs) (hc : cs.size ≠ 1) : g ≠ b := by
  rintro rfl
  obtain ⟨t', s, h⟩ := h
  have e := hk.symm.trans h
  cases e
  exact hc rfl
theorem S4.pot (h : S4 w0 w g5 g12 b J M a n c ma mn mc sa sn sl) (hk : PB b w.heap.size w w') (hp : Pt w' b) : S4 w0 w' g5 g12 b J M a n c ma mn mc sa sn sl :=
  ⟨h.b0.trans ((hk.mono h.b0.size).toBelow h.hb), h.hb, hp, h.job.pb hk h.job.lt (h.pt.ne h.job (by simp [jobC])), h.rg.pb h.pt hk, h.en, h.n20, h.mj.pb hk h.mj.lt (h.pt.ne h.mj (by simp [jobC])), h.mg.pb h.pt hk, h.me, h.ck, h.st.pb h.pt hk, h.se, h.s20⟩
end
theorem own_ge {w : World} {B e s n : Nat} {v : Value} {xs : List Value} (h : w.ownsRow B e s v n xs) {g : Nat} (hg : Value.ownBlock v = some g) : B ≤ g ∧ g < w.heap.size := by
  rcases h.2 with ⟨rfl, _⟩ | ⟨g', cap, cur, rfl, hb, hh, _⟩
  · cases hg
  · cases hg
    exact ⟨hb, (Array.getElem?_eq_some_iff.1 hh).1⟩
/-- A block of numbers. -/
def IB (w : World) (g N : Nat) : Prop := ∃ cs, Bk w g 3 cs ∧ ∀ k, k < N → ∃ x, cs[k]? = some (Value.int .i64 x)
section
variable {w w' : World} {g N B : Nat}
theorem IB.lt (h : IB w g N) : g < w.heap.size := by obtain ⟨cs, h, _⟩ := h; exact h.lt
theorem IB.below (h : IB w g N) (hb : Below B w w') (hg : g < B) : IB w' g N := by obtain ⟨cs, h, h2⟩ := h; exact ⟨cs, h.below hb hg, h2⟩
theorem IB.drew (h : IB w g N) : IB w.drew g N := h
theorem IB.cell (h : IB w g N) {k : Nat} (hk : k < N) : ∃ x, w.cell? ⟨g, k, none⟩ = some (.int .i64 x) := by
  obtain ⟨cs, h, h2⟩ := h
  obtain ⟨x, hx⟩ := h2 k hk
  exact ⟨x, h.at_ k _ hx⟩
theorem IB.free (h : IB w g N) (k : Nat) : w.frozen? ⟨g, k, none⟩ = false := by obtain ⟨cs, h, _⟩ := h; exact h.free k
theorem IB.put (h : IB w g N) (i : Nat) (x : Int) : IB (w.setCell ⟨g, i, none⟩ (.int .i64 x)) g N := by
  obtain ⟨cs, h, h2⟩ := h
  refine ⟨_, h.put i _, fun k hk => ?_⟩
  obtain ⟨y, hy⟩ := h2 k hk
  by_cases e : i = k
  · subst e
    exact ⟨x, by rw [Array.getElem?_setIfInBounds_self_of_lt (Array.getElem?_eq_some_iff.1 hy).1]⟩
  · exact ⟨y, by rw [Array.getElem?_setIfInBounds_ne e]; exact hy⟩
theorem IB.is (h : IB w g N) : ∃ l : List Int, l.length = N ∧ Is w w.heap.size (some ⟨g, 0, none⟩) l := by
  obtain ⟨cs, hb, h⟩ := h
  refine ⟨List.ofFn fun i : Fin N => (h i.1 i.2).choose, by simp, fun k x hk => ⟨g, 0, rfl, hb.lt, ?_⟩⟩
  have hkN : k < N := by have := (List.getElem?_eq_some_iff.1 hk).1; simpa using this
  have hx : (h k hkN).choose = x := by
    rw [List.getElem?_eq_getElem (by simpa using hkN)] at hk
    simpa using hk
  rw [← hx, Nat.zero_add]
  exact hb.at_ k _ (h k hkN).choose_spec
theorem ints_app (x : Int) (l : List Int) : ∀ u ∈ [Value.int .i64 x] ++ l.map (Value.int .i64), ∃ x, u = Value.int .i64 x := by
  intro u hu
  rcases List.mem_append.1 hu with h | h
  · exact ⟨_, List.mem_singleton.1 h⟩
  · obtain ⟨x, _, e⟩ := List.mem_map.1 h
    exact ⟨x, e.symm⟩
theorem ib_one (w : World) (x : Int) : IB (w.alloc (.cells #[.int .i64 x] 3)) w.heap.size 1 := ⟨_, Bk.new _ _ _, fun k hk => ⟨x, by
  obtain rfl : k = 0 := by omega
  rfl⟩⟩
theorem IB.of_own {v : Value} {xs : List Value} (h : w.ownsRow B 3 1 v N xs) (hx : ∀ u ∈ xs, ∃ x, u = Value.int .i64 x) (hN : 0 < N) : ∃ g cap, v = .slice (some ⟨g, 0, none⟩) N cap ∧ B ≤ g ∧ IB w g N := by
  have hl := h.1
  rcases h.2 with ⟨rfl, h0⟩ | ⟨g, cap, cur, rfl, hb, hg, hnc, hcm, hcs, htk⟩
  · omega
  · refine ⟨g, cap, rfl, hb, cur, hg, fun k hk => ?_⟩
    have hkx : k < xs.length := by omega
    obtain ⟨x, hx'⟩ := hx xs[k] (List.getElem_mem hkx)
    refine ⟨x, ?_⟩
    have h1 : (cur.toList.take (N * 1))[k]? = some xs[k] := by rw [htk]; exact List.getElem?_eq_getElem hkx
    rw [List.getElem?_take_of_lt (by omega)] at h1
    rw [← Array.getElem?_toList, h1, hx']
end
theorem Rg.rowKeep {w : World} {a : Option Addr} {l : List R2} (h : Rg w w.heap.size a l) {g : Nat} (hne : ∀ q off, a = some ⟨q, off, none⟩ → q ≠ g) (cs : Array Value) : Rg (w.setRow g cs) (w.setRow g cs).heap.size a l := fun k x hk => by
  obtain ⟨q, off, e, hq, e0, e1⟩ := h k x hk
  have hn := setRow_other w g q cs (hne q off e)
  exact ⟨q, off, e, by simpa [World.setRow] using hq, (World.cell?_of_block (a := ⟨q, off + k * 2, none⟩) hn).trans e0, (World.cell?_of_block (a := ⟨q, off + k * 2 + 1, none⟩) hn).trans e1⟩
theorem Is.rowKeep {w : World} {a : Option Addr} {l : List Int} (h : Is w w.heap.size a l) {g : Nat} (hne : ∀ q off, a = some ⟨q, off, none⟩ → q ≠ g) (cs : Array Value) : Is (w.setRow g cs) (w.setRow g cs).heap.size a l := fun k x hk => by
  obtain ⟨q, off, e, hq, e0⟩ := h k x hk
  have hn := setRow_other w g q cs (hne q off e)
  exact ⟨q, off, e, by simpa [World.setRow] using hq, (World.cell?_of_block (a := ⟨q, off + k, none⟩) hn).trans e0⟩
theorem copyJobR_any (J : Jb) (a : Option Addr) (n c : Nat) (w : World) (hn : n = J.sh.length) (hm : n ≤ 1000) (h : Rg w w.heap.size a J.sh) :
    Calls Try.prog 8 #[.agg (jobC J (.slice a n c))] w fun e w' => ∃ a' c', e = .returned (.agg (jobC J (.slice a' n c'))) ∧ Rg w' w'.heap.size a' J.sh ∧ Below w.heap.size w w' ∧ ∀ q off, a' = some ⟨q, off, none⟩ → w.heap.size ≤ q ∧ q < w'.heap.size := by
  refine (copyJob_any J a n c w hn hm h).mono ?_
  rintro e w' ⟨a', c', rfl, own, hb⟩
  obtain ⟨_, _, e2, _, hrg⟩ := Rg.of_own own
  cases e2
  exact ⟨a', c', rfl, hrg, hb, fun q off e => own_ge own (by rw [e]; rfl)⟩
theorem turnN_any (x : Int) (n : Nat) (hx : -9223372036854775808 ≤ x ∧ x ≤ 9223372036854775807) (hn : 1 ≤ n ∧ n ≤ 1000) (w : World) :
    Calls Try.prog 20 #[.int .i64 x, .int .i64 (n : Int)] w fun e w' => ∃ r : Nat, e = .returned (.int .i64 (r : Int)) ∧ r < n ∧ Below w.heap.size w w' := by
  refine (turn_any x n hx ⟨by omega, by omega⟩ w).mono ?_
  rintro e w' ⟨r, rfl, hr, hb⟩
  exact ⟨r.toNat, by rw [Int.toNat_of_nonneg hr.1], by omega, hb⟩
/-- What stands in the tongue that After hands back. -/
def afterT (J : Jb) (l : List Int) : Tg := if filedE J l = 0 then afterS J J.tg l else zeroJ.tg
theorem after_ans {J : Jb} {l : List Int} {w w' : World} {e : Ending} (h : AfterAns J l w e w') : e = .returned (.tuple #[.agg (tonC (afterT J l)), .int .i64 (filedE J l)]) ∧ Below w.heap.size w w' := by
  obtain ⟨h, hb⟩ := h
  refine ⟨?_, hb⟩
  by_cases hc : filedE J l = 0
  · rw [if_pos hc] at h
    rw [h, afterT, if_pos hc, hc]
  · rw [if_neg hc] at h
    rw [h, afterT, if_neg hc]
end Go.Proofs.Ytdficjnnlaicpaa
