/- Part 35 of the proof: ShA. -/
import Derived.Deep.WholeRow
import Derived.Test.YtbbekjcldbbhiaaU34
import Derived.Test.YtbbekjcldbbhiaaU31
import Derived.Test.YtbbekjcldbbhiaaU14
import Derived.Test.YtbbekjcldbbhiaaU27
/- The law ReedShortest: the loop. -/
namespace Go.Proofs.Ytbbekjcldbbhiaa
set_option linter.all false
open Go.RowKit
noncomputable def shbody : Code := Try.f3.body.getD .skip
noncomputable def shrest1 : Code := sndF shbody
noncomputable def shrest2 : Code := sndF shrest1
noncomputable def shrest3 : Code := sndF shrest2
noncomputable def shrest4 : Code := sndF shrest3
noncomputable def shrest5 : Code := sndF shrest4
set_option maxRecDepth 1000000 in
theorem shbody_eq : shbody = .seq (Code.region 0 #[⟨some 2, .box 30 (.tmp 0), 0, "law.go:76", #[], none⟩, ⟨some 4, .assign (.const (.bool false)), 4, "law.go:76", #[], none⟩] false) shrest1 := by kernel_rfl
set_option maxRecDepth 1000000 in
theorem shrest1_eq : shrest1 = .seq (.seq (Code.region 1 #[⟨some 13, .fieldAddr 30 (.tmp 2) 2, 0, "law.go:77", #[], none⟩, ⟨some 14, .load 28 (.tmp 13), 28, "law.go:77", #[⟨0, .data⟩], none⟩, ⟨some 15, .call { callee := .builtin .len, args := #[.tmp 14], argTypes := #[28] }, 3, "law.go:77", #[⟨1, .data⟩], none⟩, ⟨some 16, .binOp .gtr 3 (.tmp 15) (.const (.int .i64 20)) 3, 4, "law.go:77", #[⟨2, .data⟩], none⟩] false) (.cond (.tmp 16) (.seq (Code.region 2 #[⟨some 17, .call { callee := .value (.func 5), args := #[], argTypes := #[] }, 4, "law.go:78", #[], none⟩, ⟨some 4, .assign (.tmp 17), 4, "law.go:78", #[⟨0, .data⟩, ⟨0, .chain⟩, ⟨0, .phase⟩], none⟩] false) .ret) .skip)) shrest2 := by kernel_rfl
set_option maxRecDepth 1000000 in
theorem shrest2_eq : shrest2 = .seq (Code.region 3 #[⟨some 18, .move (.tmp 1), 31, "law.go:80", #[], none⟩, ⟨some 19, .call { callee := .value (.func 6), args := #[.tmp 18], argTypes := #[31] }, 33, "law.go:80", #[⟨0, .data⟩], none⟩, ⟨some 5, .assign (.tmp 19), 33, "law.go:80", #[⟨1, .data⟩, ⟨1, .chain⟩, ⟨0, .phase⟩, ⟨1, .phase⟩], none⟩] false) shrest3 := by kernel_rfl
set_option maxRecDepth 1000000 in
theorem shrest3_eq : shrest3 = .seq (Code.region 4 #[⟨some 20, .load 30 (.tmp 2), 30, "law.go:81", #[], none⟩, ⟨some 21, .move (.tmp 5), 33, "law.go:81", #[], none⟩, ⟨some 22, .call { callee := .value (.func 7), args := #[.tmp 21, .const (.int .i64 1), .const (.int .i64 1)], argTypes := #[33, 3, 3] }, 30, "law.go:81", #[⟨1, .data⟩], none⟩, ⟨some 23, .move (.tmp 5), 33, "law.go:81", #[], none⟩, ⟨some 24, .call { callee := .value (.func 7), args := #[.tmp 23, .const (.int .i64 3), .const (.int .i64 2)], argTypes := #[33, 3, 3] }, 30, "law.go:81", #[⟨3, .data⟩, ⟨2, .chain⟩], none⟩, ⟨some 25, .buildSlice 36 3 #[(0, .tmp 20), (1, .tmp 22), (2, .tmp 24)], 36, "law.go:81", #[⟨0, .data⟩, ⟨2, .data⟩, ⟨4, .data⟩], none⟩, ⟨some 6, .assign (.tmp 25), 36, "law.go:81", #[⟨5, .data⟩, ⟨4, .chain⟩, ⟨0, .phase⟩, ⟨1, .phase⟩, ⟨2, .phase⟩, ⟨3, .phase⟩, ⟨4, .phase⟩, ⟨5, .phase⟩], none⟩] true) shrest4 := by kernel_rfl
set_option maxRecDepth 1000000 in
theorem shrest5_eq : shrest5 = .seq (Code.region 13 #[⟨some 68, .call { callee := .value (.func 5), args := #[], argTypes := #[] }, 4, "law.go:90", #[], none⟩, ⟨some 4, .assign (.tmp 68), 4, "law.go:90", #[⟨0, .data⟩, ⟨0, .chain⟩, ⟨0, .phase⟩], none⟩] false) .ret := by kernel_rfl

def JobOKn (x y : Int) : Prop := ∀ (b : Nat) (w : World), Pt w b → Calls Try.prog 7 #[.pointer (some ⟨b, 0, none⟩), .int .i64 x, .int .i64 y] w (JobP9 b w)
def QSH (w0 : World) : Exit → Act → World → Prop := bodyPost Try.prog Try.f3 fun e w' => e = .returned (.bool true) ∧ Below w0.heap.size w0 w'
/-- A job and where its shifts lie. -/
structure Ent where
  J : Jb
  a : Option Addr
  n : Nat
  c : Nat
def Ent.V (e : Ent) : Array Value := jobC e.J (.slice e.a e.n e.c)
theorem Ent.V_len (e : Ent) : e.V.toList.length = 18 := rfl
theorem flat_at {α β : Type} (F : α → List β) (hF : ∀ x, (F x).length = 18) : ∀ (es : List α) (k : Nat) (e : α), es[k]? = some e → ∀ (j : Nat) (v : β), (F e)[j]? = some v → (es.flatMap F)[k * 18 + j]? = some v
  | e0 :: es, 0, e, h, j, v, hv => by
    obtain rfl : e0 = e := by simpa using h
    have hj := (List.getElem?_eq_some_iff.1 hv).1
    rw [List.flatMap_cons, Nat.zero_mul, Nat.zero_add, List.getElem?_append_left hj]
    exact hv
  | e0 :: es, k + 1, e, h, j, v, hv => by
    have ih := flat_at F hF es k e (by simpa using h) j v hv
    rw [List.flatMap_cons, List.getElem?_append_right (by rw [hF]; omega), hF]
    have : (k + 1) * 18 + j - 18 = k * 18 + j := by omega
    rw [this]
    exact ih

structure SL (w0 w1 : World) (g : Nat) (es : List Ent) : Prop where
  b0 : Below w0.heap.size w0 w1
  arr : Bk w1 g 30 (es.flatMap fun e => e.V.toList).toArray
  len : es.length = 3
  each : ∀ e ∈ es, Rg w1 w1.heap.size e.a e.J.sh ∧ e.n = e.J.sh.length ∧ e.n ≤ 30
structure T3 (w0 w : World) (g2 b : Nat) (J : Jb) (a : Option Addr) (n c : Nat) : Prop where
  b0 : Below w0.heap.size w0 w
  hb : w0.heap.size ≤ b
  pt : Pt w b
  job : Bk w g2 30 (jobC J (.slice a n c))
  rg : Rg w w.heap.size a J.sh
section
variable {w0 w w' : World} {g2 b : Nat} {J : Jb} {a : Option Addr} {n c : Nat}
theorem T3.next (h : T3 w0 w g2 b J a n c) (hb : Below w.heap.size w w') : T3 w0 w' g2 b J a n c :=
  ⟨h.b0.trans (hb.mono h.b0.size), h.hb, h.pt.below hb h.pt.lt, h.job.below hb h.job.lt, h.rg.up hb⟩
theorem Pt.ne {g : Nat} {t : TypeId} {cs : Array Value} (h : Pt w b) (hk : Bk w g t cs) (hc : cs.size ≠ 1) : g ≠ b := by
  rintro rfl
  obtain ⟨t', s, h⟩ := h
  have e := hk.symm.trans h
  cases e
  exact hc rfl
theorem T3.pot (h : T3 w0 w g2 b J a n c) (hk : PB b w.heap.size w w') (hp : Pt w' b) : T3 w0 w' g2 b J a n c :=
  ⟨h.b0.trans ((hk.mono h.b0.size).toBelow h.hb), h.hb, hp, h.job.pb hk h.job.lt (h.pt.ne h.job (by simp [jobC])), h.rg.pb h.pt hk⟩
end
/-- What stands in two variables after a call of Shortest. -/
def SX (J : Jb) (w : World) (sa : Option Addr) (sn : Nat) (ev : Int) : Prop := (J.check = 0 ∧ SQ J w sa sn ev) ∨ (J.check ≠ 0 ∧ ev = J.check ∧ sn = 0)
theorem shortX_ans {J : Jb} {w w' : World} {e : Ending} (h : ShortX J w e w') : ∃ sa sn sc ev, e = .returned (.tuple #[.slice sa sn sc, .int .i64 ev]) ∧ SX J w' sa sn ev ∧ Below w.heap.size w w' := by
  unfold ShortX at h
  by_cases hc : J.check = 0
  · rw [if_pos hc] at h
    obtain ⟨h, hb⟩ := h
    rcases h with ⟨n, i, l, a, c, hf, rfl, his⟩ | ⟨hno, rfl⟩
    · exact ⟨a, n, c, 0, rfl, .inl ⟨hc, .inl ⟨rfl, i, l, hf, his⟩⟩, hb⟩
    · exact ⟨none, 0, 0, 11, rfl, .inl ⟨hc, .inr ⟨rfl, rfl, hno⟩⟩, hb⟩
  · rw [if_neg hc] at h
    exact ⟨none, 0, 0, _, h.1, .inr ⟨hc, rfl, rfl⟩, h.2⟩
theorem SX.up {J : Jb} {w w' : World} {sa : Option Addr} {sn : Nat} {ev : Int} (h : SX J w sa sn ev) (hb : Below w.heap.size w w') : SX J w' sa sn ev := by
  rcases h with ⟨hc, ⟨e, i, l, hf, his⟩ | h⟩ | h
  · exact .inl ⟨hc, .inl ⟨e, i, l, hf, his.up hb⟩⟩
  · exact .inl ⟨hc, .inr h⟩
  · exact .inr h
theorem SX.same {J : Jb} {w : World} {sa sb : Option Addr} {sn sm : Nat} {ev fv : Int} (h : SX J w sa sn ev) (g : SX J w sb sm fv) : ev = fv ∧ ∃ l : List Int, (sn = l.length ∧ sm = l.length ∧ l.length ≤ 1000) ∧ Is w w.heap.size sa l ∧ Is w w.heap.size sb l := by
  rcases h with ⟨hc, ⟨e, i, l, hf, his⟩ | ⟨e, e2, hno⟩⟩ | ⟨hc, e, e2⟩
  · rcases g with ⟨_, ⟨e', i', l', hf', his'⟩ | ⟨_, _, hno⟩⟩ | ⟨hc', _⟩
    · obtain ⟨q1, q2⟩ := first_sole hf hf'
      subst q2
      have hl := plansL_each sn l (List.mem_of_getElem? hf.2.1)
      have h6 := hf.1
      exact ⟨e.trans e'.symm, l, ⟨hl.symm, by omega, by omega⟩, his, his'⟩
    · exact absurd hf.2.2.1 (hno sn hf.1 l (List.mem_of_getElem? hf.2.1))
    · exact absurd hc hc'
  · rcases g with ⟨_, ⟨_, _, l', hf', _⟩ | ⟨e', e2', _⟩⟩ | ⟨hc', _⟩
    · exact absurd hf'.2.2.1 (hno sm hf'.1 l' (List.mem_of_getElem? hf'.2.1))
    · exact ⟨e.trans e'.symm, [], ⟨e2, e2', by decide⟩, Is.nil _ _ _, Is.nil _ _ _⟩
    · exact absurd hc hc'
  · rcases g with ⟨hc', _⟩ | ⟨_, e', e2'⟩
    · exact absurd hc' hc
    · exact ⟨e.trans e'.symm, [], ⟨e2, e2', by decide⟩, Is.nil _ _ _, Is.nil _ _ _⟩
def TunS : Prop := TunOK ∧ ShortOK
noncomputable def blk1 : Code → Option Code
  | .block 1 c => some c
  | .block _ c => blk1 c
  | .seq a b => match blk1 a with
    | some c => some c
    | none => blk1 b
  | .loop c => blk1 c
  | _ => none
noncomputable def lb0 : Code := (blk1 shrest4).getD .skip
noncomputable def lb1 : Code := sndF lb0
noncomputable def lb2 : Code := sndF lb1
noncomputable def lb3 : Code := sndF lb2
set_option maxRecDepth 1000000 in
theorem lb0_eq : lb0 = .seq (Code.region 8 #[⟨some 32, .move (.tmp 6), 36, "law.go:83", #[], none⟩, ⟨some 33, .move (.tmp 7), 3, "law.go:83", #[], none⟩, ⟨some 34, .indexAddr 36 (.tmp 32) (.tmp 33), 0, "law.go:83", #[⟨0, .data⟩, ⟨1, .data⟩], none⟩, ⟨some 35, .load 30 (.tmp 34), 30, "law.go:83", #[⟨2, .data⟩], none⟩, ⟨some 36, .call { callee := .value (.func 8), args := #[.tmp 35], argTypes := #[30] }, 30, "law.go:83", #[⟨3, .data⟩], none⟩, ⟨some 8, .alloc 30, 0, "law.go:83", #[], none⟩, ⟨none, .store 30 (.tmp 8) (.tmp 36), 0, "law.go:83", #[⟨5, .data⟩, ⟨4, .data⟩, ⟨4, .chain⟩, ⟨0, .phase⟩, ⟨1, .phase⟩, ⟨2, .phase⟩, ⟨3, .phase⟩, ⟨4, .phase⟩, ⟨5, .phase⟩], none⟩] false) lb1 := by kernel_rfl
set_option maxRecDepth 1000000 in
theorem lb1_eq : lb1 = .seq (Code.region 9 #[⟨some 38, .load 30 (.tmp 8), 30, "law.go:84", #[], none⟩, ⟨some 39, .call { callee := .value (.func 9), args := #[.tmp 38], argTypes := #[30] }, 39, "law.go:84", #[⟨0, .data⟩], none⟩, ⟨some 37, .move (.tmp 39), 39, "law.go:84", #[⟨1, .data⟩], none⟩, ⟨some 40, .extract (.tmp 37) 0, 31, "law.go:84", #[⟨2, .data⟩], none⟩, ⟨some 41, .extract (.tmp 37) 1, 38, "law.go:84", #[⟨2, .data⟩, ⟨5, .gcOnly .lateStores⟩], none⟩, ⟨some 9, .assign (.tmp 40), 31, "law.go:84", #[⟨3, .data⟩, ⟨1, .chain⟩, ⟨0, .phase⟩, ⟨1, .phase⟩, ⟨2, .phase⟩, ⟨3, .phase⟩, ⟨4, .textOnly .lateStores⟩], none⟩, ⟨some 10, .assign (.tmp 41), 38, "law.go:84", #[⟨4, .data⟩, ⟨5, .chain⟩, ⟨0, .phase⟩, ⟨1, .phase⟩, ⟨2, .phase⟩, ⟨3, .phase⟩, ⟨4, .phase⟩, ⟨5, .phase⟩], none⟩] false) lb2 := by kernel_rfl
set_option maxRecDepth 1000000 in
theorem lb2_eq : lb2 = .seq (Code.region 10 #[⟨some 43, .move (.tmp 6), 36, "law.go:85", #[], none⟩, ⟨some 44, .move (.tmp 7), 3, "law.go:85", #[], none⟩, ⟨some 45, .indexAddr 36 (.tmp 43) (.tmp 44), 0, "law.go:85", #[⟨0, .data⟩, ⟨1, .data⟩], none⟩, ⟨some 46, .load 30 (.tmp 45), 30, "law.go:85", #[⟨2, .data⟩], none⟩, ⟨some 47, .call { callee := .value (.func 10), args := #[.tmp 46], argTypes := #[30] }, 39, "law.go:85", #[⟨3, .data⟩], none⟩, ⟨some 42, .move (.tmp 47), 39, "law.go:85", #[⟨4, .data⟩], none⟩, ⟨some 48, .extract (.tmp 42) 0, 31, "law.go:85", #[⟨5, .data⟩], none⟩, ⟨some 49, .extract (.tmp 42) 1, 38, "law.go:85", #[⟨5, .data⟩, ⟨8, .gcOnly .lateStores⟩], none⟩, ⟨some 11, .assign (.tmp 48), 31, "law.go:85", #[⟨6, .data⟩, ⟨4, .chain⟩, ⟨0, .phase⟩, ⟨1, .phase⟩, ⟨2, .phase⟩, ⟨3, .phase⟩, ⟨4, .phase⟩, ⟨5, .phase⟩, ⟨6, .phase⟩, ⟨7, .textOnly .lateStores⟩], none⟩, ⟨some 12, .assign (.tmp 49), 38, "law.go:85", #[⟨7, .data⟩, ⟨8, .chain⟩, ⟨0, .phase⟩, ⟨1, .phase⟩, ⟨2, .phase⟩, ⟨3, .phase⟩, ⟨4, .phase⟩, ⟨5, .phase⟩, ⟨6, .phase⟩, ⟨7, .phase⟩, ⟨8, .phase⟩], none⟩] false) lb3 := by kernel_rfl
set_option maxRecDepth 1000000 in
theorem lb3_eq : lb3 = .seq (Code.region 11 #[⟨some 50, .move (.tmp 10), 38, "law.go:86", #[], none⟩, ⟨some 51, .move (.tmp 12), 38, "law.go:86", #[], none⟩, ⟨some 52, .binOp .neq 38 (.tmp 50) (.tmp 51) 38, 4, "law.go:86", #[⟨0, .data⟩, ⟨1, .data⟩], none⟩, ⟨some 53, .move (.tmp 52), 4, "law.go:86", #[⟨2, .data⟩], none⟩, ⟨some 54, .move (.tmp 9), 31, "law.go:86", #[⟨3, .guard⟩], some (3, false)⟩, ⟨some 55, .move (.tmp 11), 31, "law.go:86", #[⟨3, .guard⟩], some (3, false)⟩, ⟨some 56, .call { callee := .value (.func 11), args := #[.tmp 54, .tmp 55], argTypes := #[31, 31] }, 4, "law.go:86", #[⟨4, .data⟩, ⟨5, .data⟩, ⟨3, .chain⟩, ⟨3, .guard⟩], some (3, false)⟩, ⟨some 57, .unOp .not 4 (.tmp 56), 4, "law.go:86", #[⟨6, .data⟩, ⟨3, .guard⟩], some (3, false)⟩, ⟨some 58, .pick (.tmp 53) (.const (.bool true)) (.tmp 57), 4, "law.go:86", #[⟨3, .data⟩, ⟨7, .data⟩], none⟩, ⟨some 59, .move (.tmp 58), 4, "law.go:86", #[⟨8, .data⟩, ⟨6, .chain⟩], none⟩, ⟨some 60, .load 30 (.tmp 8), 30, "law.go:86", #[⟨9, .guard⟩], some (9, false)⟩, ⟨some 61, .move (.tmp 6), 36, "law.go:86", #[⟨9, .guard⟩], some (9, false)⟩, ⟨some 62, .move (.tmp 7), 3, "law.go:86", #[⟨9, .guard⟩], some (9, false)⟩, ⟨some 63, .indexAddr 36 (.tmp 61) (.tmp 62), 0, "law.go:86", #[⟨11, .data⟩, ⟨12, .data⟩, ⟨9, .guard⟩], some (9, false)⟩, ⟨some 64, .load 30 (.tmp 63), 30, "law.go:86", #[⟨13, .data⟩, ⟨9, .guard⟩], some (9, false)⟩, ⟨some 65, .call { callee := .value (.func 12), args := #[.tmp 60, .tmp 64], argTypes := #[30, 30] }, 4, "law.go:86", #[⟨10, .data⟩, ⟨14, .data⟩, ⟨9, .chain⟩, ⟨9, .guard⟩], some (9, false)⟩, ⟨some 66, .unOp .not 4 (.tmp 65), 4, "law.go:86", #[⟨15, .data⟩, ⟨9, .guard⟩], some (9, false)⟩, ⟨some 67, .pick (.tmp 59) (.const (.bool true)) (.tmp 66), 4, "law.go:86", #[⟨9, .data⟩, ⟨16, .data⟩], none⟩] true) (.cond (.tmp 67) (.seq (Code.region 12 #[⟨some 4, .assign (.const (.bool false)), 4, "law.go:87", #[], none⟩] false) .ret) .skip) := by kernel_rfl
set_option maxRecDepth 1000000 in
theorem shrest4_cut : shrest4 = .seq (.seq (Code.region 5 #[⟨some 7, .assign (.const (.int .i64 0)), 3, "law.go:82", #[], none⟩] false) (.block 0 (.loop (.seq (.seq (Code.region 6 #[⟨some 26, .move (.tmp 7), 3, "law.go:82", #[], none⟩, ⟨some 27, .move (.tmp 6), 36, "law.go:82", #[], none⟩, ⟨some 28, .call { callee := .builtin .len, args := #[.tmp 27], argTypes := #[36] }, 3, "law.go:82", #[⟨1, .data⟩], none⟩, ⟨some 29, .binOp .lss 3 (.tmp 26) (.tmp 28) 3, 4, "law.go:82", #[⟨0, .data⟩, ⟨2, .data⟩], none⟩] false) (.cond (.tmp 29) .skip (.exit 0))) (.seq (.block 1 lb0) (Code.region 7 #[⟨some 30, .move (.tmp 7), 3, "law.go:82", #[], none⟩, ⟨some 31, .binOp .add 3 (.tmp 30) (.const (.int .i64 1)) 3, 3, "law.go:82", #[⟨0, .data⟩], none⟩, ⟨some 7, .assign (.tmp 31), 3, "law.go:82", #[⟨1, .data⟩, ⟨0, .phase⟩, ⟨1, .phase⟩], none⟩] false)))))) shrest5 := by kernel_rfl
def LQ (Q : Exit → Act → World → Prop) (w1 : World) (g k : Nat) : Prop := ∀ (u0 u1 u2 u3 u4 u5 u8 u9 u10 u11 u12 u13 u14 u15 u16 u17 u18 u19 u20 u21 u22 u23 u24 u25 u26 u27 u28 u29 u30 u31 u32 u33 u34 u35 u36 u37 u38 u39 u40 u41 u42 u43 u44 u45 u46 u47 u48 u49 u50 u51 u52 u53 u54 u55 u56 u57 u58 u59 u60 u61 u62 u63 u64 u65 u66 u67 u68 : Value) (w' : World), Below w1.heap.size w1 w' → Q .normal ⟨#[u0, u1, u2, u3, u4, u5, (.slice (some ⟨g, 0, none⟩) 3 3), (.int .i64 ↑k), u8, u9, u10, u11, u12, u13, u14, u15, u16, u17, u18, u19, u20, u21, u22, u23, u24, u25, u26, u27, u28, u29, u30, u31, u32, u33, u34, u35, u36, u37, u38, u39, u40, u41, u42, u43, u44, u45, u46, u47, u48, u49, u50, u51, u52, u53, u54, u55, u56, u57, u58, u59, u60, u61, u62, u63, u64, u65, u66, u67, u68], []⟩ w'
theorem wpList_load_midA {P : Program} {ops : Array Oper} {rest : List Oper} {op : Oper} {a : Act} {w : World} {Q : Exit → Act → World → Prop} (hgd : op.guard = none) (ty : TypeId) (x : Operand) (ho : op.op = .load ty x)
    (b o : Nat) (hx : a.eval x = .pointer (some ⟨b, o, none⟩)) (cs : Array Value) (d : TypeDesc) (hc : w.rangeAt b o cs.toList)
    (hu : P.underlying ty = some d) (hd : d.isRow = true) (hi : (P.info? ty).map (·.size) = some cs.size)
    (h : wpList P ops Q rest (a.put op.dst (.agg cs)) w) : wpList P ops Q (op :: rest) a w :=
  wpList_load_mid hgd ty x ho b o hx cs.toList d hc hu hd (by rw [Array.length_toList]; exact hi) (by rw [Array.toArray_toList]; exact h)
theorem yields_mid {P : Program} {ops : Array Oper} {S : World → Prop} {op : Oper} {a : Act} (hw : Region.wanted op (yielded ops a.tmps) = true) (ty : TypeId) (x : Operand) (ho : op.op = .load ty x)
    (b o : Nat) (hx : a.eval x = .pointer (some ⟨b, o, none⟩)) (cs : Array Value) (d : TypeDesc) (hS : ∀ w, S w → w.rangeAt b o cs.toList)
    (hu : P.underlying ty = some d) (hd : d.isRow = true) (hi : (P.info? ty).map (·.size) = some cs.size) : YieldsIf P ops S op (.agg cs) a := by
  have := yieldsIf_load_mid (P := P) (ops := ops) (S := S) hw ty x ho b o hx cs.toList d hS hu hd (by rw [Array.length_toList]; exact hi)
  rw [Array.toArray_toList] at this
  exact this
theorem SL.row {w0 w1 : World} {g : Nat} {es : List Ent} (hs : SL w0 w1 g es) {k : Nat} {e : Ent} (hk : es[k]? = some e) {w : World} (hB : Below w1.heap.size w1 w) : w.rangeAt g (k * 18) (jobC e.J (.slice e.a e.n e.c)).toList := fun j v hv => by
  have h1 := flat_at (fun e : Ent => e.V.toList) Ent.V_len es k e hk j v hv
  have hb := hs.arr.below hB hs.arr.lt
  exact hb.at_ (k * 18 + j) v (by simpa using h1)
theorem sameIntsT_any (a b : Option Addr) (n c m d : Nat) (l : List Int) (w : World) (hn : n = l.length) (hm : m = l.length) (h1 : l.length ≤ 1000) (hl : Is w w.heap.size a l) (hp : Is w w.heap.size b l) :
    Calls Try.prog 11 #[.slice a n c, .slice b m d] w fun e w' => e = .returned (.bool true) ∧ Below w.heap.size w w' := by
  refine (sameInts_any a b n c m d l l w hn hm (by omega) (by omega) hl hp).mono ?_
  rintro e w' ⟨rfl, hb⟩
  exact ⟨by rw [decide_eq_true rfl], hb⟩
set_option maxHeartbeats 4000000 in
set_option maxRecDepth 1000000 in
theorem lbp3 {w1 : World} {g : Nat} {es : List Ent} {w0 : World} {k : Nat} {e : Ent} {Q : Exit → Act → World → Prop} {oa : Option Addr} {oc g8 : Nat} {sa : Option Addr} {sn sc : Nat} {ev : Int} {ta : Option Addr} {tn tc : Nat} {fv : Int} {w : World} {u0 u1 u2 u3 u4 u5 u13 u14 u15 u16 u17 u18 u19 u20 u21 u22 u23 u24 u25 u26 u27 u28 u29 u30 u31 u32 u33 u34 u35 u36 u37 u38 u39 u40 u41 u42 u43 u44 u45 u46 u47 u48 u49 u50 u51 u52 u53 u54 u55 u56 u57 u58 u59 u60 u61 u62 u63 u64 u65 u66 u67 u68 : Value} (hs : SL w0 w1 g es) (hk : es[k]? = some e) (hk3 : k < 3) (hQ : LQ Q w1 g k) (hB : Below w1.heap.size w1 w) (h8 : Bk w g8 30 (jobC e.J (.slice oa e.n oc))) (ho : Rg w w.heap.size oa e.J.sh) (hx : SX e.J w sa sn ev) (hy : SX e.J w ta tn fv) : Code.wp Try.prog lb3 Q ⟨#[u0, u1, u2, u3, u4, u5, (.slice (some ⟨g, 0, none⟩) 3 3), (.int .i64 ↑k), (.pointer (some ⟨g8, 0, none⟩)), (.slice sa sn sc), (.int .i64 ev), (.slice ta tn tc), (.int .i64 fv), u13, u14, u15, u16, u17, u18, u19, u20, u21, u22, u23, u24, u25, u26, u27, u28, u29, u30, u31, u32, u33, u34, u35, u36, u37, u38, u39, u40, u41, u42, u43, u44, u45, u46, u47, u48, u49, u50, u51, u52, u53, u54, u55, u56, u57, u58, u59, u60, u61, u62, u63, u64, u65, u66, u67, u68], []⟩ w := by
  rw [lb3_eq]
  obtain ⟨hrg, hen, hen30⟩ := hs.each e (List.mem_of_getElem? hk)
  have HEN := hidMk hen
  have HRG := hidMk (hrg.up hB)
  have HS := hidMk hs
  have HQ := hidMk hQ
  have HR := hidMk (hs.row hk hB)
  have HB := hidMk hB
  have HK := hidMk hk
  have hwz := hB.size
  have hnm : e.n ≤ 9223372036854775807 := by omega
  have H8 := hidMk h8
  have HO := hidMk ho
  have HX := hidMk hx
  clear hx
  have HY := hidMk hy
  clear hy
  clear h8 ho
  clear hs hQ hB hk hrg hen
  obtain ⟨hef, l, hl, hsi, hti⟩ := HX.out.same HY.out
  subst hef
  have HL := hidMk hl
  have HSI := hidMk hsi
  have HTI := hidMk hti
  clear hl hsi hti
  have hki : (0 : Int) ≤ (k : Int) := by omega
  have hki2 : (k : Int) < 3 := by omega
  refine wp_seq_k fun K0 hK0 => ?_
  refine region_via (R := fun a_ e_ a' w' => e_ = .normal ∧ ∃ (v50 v51 v52 v53 v54 v55 v56 v57 v58 v59 v60 v61 v62 v63 v64 v65 v66 : Value), a' = ((((((((((((((((((a_.put (some 50) v50).put (some 51) v51).put (some 52) v52).put (some 53) v53).put (some 54) v54).put (some 55) v55).put (some 56) v56).put (some 57) v57).put (some 58) v58).put (some 59) v59).put (some 60) v60).put (some 61) v61).put (some 62) v62).put (some 63) v63).put (some 64) v64).put (some 65) v65).put (some 66) v66).put (some 67) (.bool false)) ∧ Below w.heap.size w w') ?_ ?_
  rotate_left
  · rintro e_ a' w' ⟨rfl, v50, v51, v52, v53, v54, v55, v56, v57, v58, v59, v60, v61, v62, v63, v64, v65, v66, rfl, al⟩
    refine hK0 _ _ ?_
    simp only [Act.put, aT, aZ, aS]
    have HB2 := hidMk (HB.out.trans (al.mono hwz))
    clear al
    go_wp2_with fail
    apply HQ.out
    exact HB2.out
  have hBW : Below w.heap.size w w.drew := (Below.refl _ _).drew
  refine wp_region_held_drew (S := fun w' => Below w.heap.size w w') (by kernel_rfl) hBW (fun hS0 => ?_)
  generalize hWd : w.drew = wd at hS0 hBW ⊢
  clear hWd
  refine wpAnyH_take (i := 0) (oi := ⟨some 50, .move (.tmp 10), 38, "law.go:86", #[], none⟩) (v := ?_) rfl (by kernel_rfl) (by kernel_rfl) (by kernel_rfl) (fun _ _ _ h => by cases h.1) (.inl ⟨by rfl, ?_⟩) (by assumption) ?_
  rotate_left
  · (intro w' hSw; (try dsimp only at hSw); skip; go_simp <;> with_reducible rfl)
  (try simp only [Act.put, aT, aZ, aS])
  refine wpAnyH_take (i := 1) (oi := ⟨some 51, .move (.tmp 12), 38, "law.go:86", #[], none⟩) (v := ?_) rfl (by kernel_rfl) (by kernel_rfl) (by kernel_rfl) (fun _ _ _ h => by cases h.1) (.inl ⟨by rfl, ?_⟩) (by assumption) ?_
  rotate_left
  · (intro w' hSw; (try dsimp only at hSw); skip; go_simp <;> with_reducible rfl)
  (try simp only [Act.put, aT, aZ, aS])
  refine wpAnyH_take (i := 2) (oi := ⟨some 52, .binOp .neq 38 (.tmp 50) (.tmp 51) 38, 4, "law.go:86", #[⟨0, .data⟩, ⟨1, .data⟩], none⟩) (v := ?_) rfl (by kernel_rfl) (by kernel_rfl) (by kernel_rfl) (fun _ _ _ h => by cases h.1) (.inl ⟨by rfl, ?_⟩) (by assumption) ?_
  rotate_left
  · (intro w' hSw; (try dsimp only at hSw); skip; go_simp <;> with_reducible rfl)
  (try simp only [Act.put, aT, aZ, aS])
  refine wpAnyH_take (i := 3) (oi := ⟨some 53, .move (.tmp 52), 4, "law.go:86", #[⟨2, .data⟩], none⟩) (v := ?_) rfl (by kernel_rfl) (by kernel_rfl) (by kernel_rfl) (fun _ _ _ h => by cases h.1) (.inl ⟨by rfl, ?_⟩) (by assumption) ?_
  rotate_left
  · (intro w' hSw; (try dsimp only at hSw); skip; go_simp <;> with_reducible rfl)
  (try simp only [Act.put, aT, aZ, aS])
  refine wpAnyH_take (i := 4) (oi := ⟨some 54, .move (.tmp 9), 31, "law.go:86", #[⟨3, .guard⟩], some (3, false)⟩) (v := ?_) rfl (by kernel_rfl) (by kernel_rfl) (by kernel_rfl) (fun _ _ _ h => by cases h.1) (.inl ⟨by rfl, ?_⟩) (by assumption) ?_
  rotate_left
  · (intro w' hSw; (try dsimp only at hSw); skip; go_simp <;> with_reducible rfl)
  (try simp only [Act.put, aT, aZ, aS])
  refine wpAnyH_take (i := 5) (oi := ⟨some 55, .move (.tmp 11), 31, "law.go:86", #[⟨3, .guard⟩], some (3, false)⟩) (v := ?_) rfl (by kernel_rfl) (by kernel_rfl) (by kernel_rfl) (fun _ _ _ h => by cases h.1) (.inl ⟨by rfl, ?_⟩) (by assumption) ?_
  rotate_left
  · (intro w' hSw; (try dsimp only at hSw); skip; go_simp <;> with_reducible rfl)
  (try simp only [Act.put, aT, aZ, aS])
  refine wpAnyH_ready (rs := [6]) (by kernel_rfl) (by simp) ?_
  refine AllReadyH.cons (o := ⟨some 56, .call { callee := .value (.func 11), args := #[.tmp 54, .tmp 55], argTypes := #[31, 31] }, 4, "law.go:86", #[⟨4, .data⟩, ⟨5, .data⟩, ⟨3, .chain⟩, ⟨3, .guard⟩], some (3, false)⟩) rfl (fun K hK => ?_) ?_
  · go_simp
    go_at_call 11
    refine (sameIntsT_any sa ta sn sc tn tc l _ HL.out.1 HL.out.2.1 HL.out.2.2 (HSI.out.up hBW) (HTI.out.up hBW)).mono ?_
    rintro e' wX ⟨rfl, hbX⟩
    have hBW_ := hBW.trans (hbX.mono hBW.size)
    clear hBW
    have hBW := hBW_
    clear hBW_ hbX
    go_wp2_with fail
    refine hK.out _ _ hBW (fun _ => ?_)
    clear hK K
    (try simp only [Act.put, aT, aZ, aS])
    refine wpAnyH_take (i := 7) (oi := ⟨some 57, .unOp .not 4 (.tmp 56), 4, "law.go:86", #[⟨6, .data⟩, ⟨3, .guard⟩], some (3, false)⟩) (v := ?_) rfl (by kernel_rfl) (by kernel_rfl) (by kernel_rfl) (fun _ _ _ h => by cases h.1) (.inl ⟨by rfl, ?_⟩) (by assumption) ?_
    rotate_left
    · (intro w' hSw; (try dsimp only at hSw); skip; go_simp <;> with_reducible rfl)
    (try simp only [Act.put, aT, aZ, aS])
    refine wpAnyH_take (i := 8) (oi := ⟨some 58, .pick (.tmp 53) (.const (.bool true)) (.tmp 57), 4, "law.go:86", #[⟨3, .data⟩, ⟨7, .data⟩], none⟩) (v := ?_) rfl (by kernel_rfl) (by kernel_rfl) (by kernel_rfl) (fun _ _ _ h => by cases h.1) (.inl ⟨by rfl, ?_⟩) (by assumption) ?_
    rotate_left
    · (intro w' hSw; (try dsimp only at hSw); skip; go_simp <;> with_reducible rfl)
    (try simp only [Act.put, aT, aZ, aS])
    refine wpAnyH_take (i := 9) (oi := ⟨some 59, .move (.tmp 58), 4, "law.go:86", #[⟨8, .data⟩, ⟨6, .chain⟩], none⟩) (v := ?_) rfl (by kernel_rfl) (by kernel_rfl) (by kernel_rfl) (fun _ _ _ h => by cases h.1) (.inl ⟨by rfl, ?_⟩) (by assumption) ?_
    rotate_left
    · (intro w' hSw; (try dsimp only at hSw); skip; go_simp <;> with_reducible rfl)
    (try simp only [Act.put, aT, aZ, aS])
    refine wpAnyH_take (i := 10) (oi := ⟨some 60, .load 30 (.tmp 8), 30, "law.go:86", #[⟨9, .guard⟩], some (9, false)⟩) rfl (by kernel_rfl) (by kernel_rfl) (by kernel_rfl) (fun _ _ _ h => by cases h.1) (yields_row (by rfl) 30 _ rfl g8 (jobC e.J (.slice oa e.n oc)) rfl 30 (fun w' hw => H8.out.below hw H8.out.lt) Try.underlying30 szJob) (by assumption) ?_
    (try simp only [Act.put, aT, aZ, aS])
    refine wpAnyH_take (i := 11) (oi := ⟨some 61, .move (.tmp 6), 36, "law.go:86", #[⟨9, .guard⟩], some (9, false)⟩) (v := ?_) rfl (by kernel_rfl) (by kernel_rfl) (by kernel_rfl) (fun _ _ _ h => by cases h.1) (.inl ⟨by rfl, ?_⟩) (by assumption) ?_
    rotate_left
    · (intro w' hSw; (try dsimp only at hSw); skip; go_simp <;> with_reducible rfl)
    (try simp only [Act.put, aT, aZ, aS])
    refine wpAnyH_take (i := 12) (oi := ⟨some 62, .move (.tmp 7), 3, "law.go:86", #[⟨9, .guard⟩], some (9, false)⟩) (v := ?_) rfl (by kernel_rfl) (by kernel_rfl) (by kernel_rfl) (fun _ _ _ h => by cases h.1) (.inl ⟨by rfl, ?_⟩) (by assumption) ?_
    rotate_left
    · (intro w' hSw; (try dsimp only at hSw); skip; go_simp <;> with_reducible rfl)
    (try simp only [Act.put, aT, aZ, aS])
    refine wpAnyH_take (i := 13) (oi := ⟨some 63, .indexAddr 36 (.tmp 61) (.tmp 62), 0, "law.go:86", #[⟨11, .data⟩, ⟨12, .data⟩, ⟨9, .guard⟩], some (9, false)⟩) (v := ?_) rfl (by kernel_rfl) (by kernel_rfl) (by kernel_rfl) (fun _ _ _ h => by cases h.1) (.inl ⟨by rfl, ?_⟩) (by assumption) ?_
    rotate_left
    · (intro w' hSw; (try dsimp only at hSw); skip; go_simp <;> with_reducible rfl)
    (try simp only [Act.put, aT, aZ, aS])
    refine wpAnyH_take (i := 14) (oi := ⟨some 64, .load 30 (.tmp 63), 30, "law.go:86", #[⟨13, .data⟩, ⟨9, .guard⟩], some (9, false)⟩) rfl (by kernel_rfl) (by kernel_rfl) (by kernel_rfl) (fun _ _ _ h => by cases h.1) (yields_mid (by rfl) 30 _ rfl g (k * 18) rfl (jobC e.J (.slice e.a e.n e.c)) _ (fun w' hw => HS.out.row HK.out (HB.out.trans (hw.mono hwz))) Try.underlying30 rfl szJob) (by assumption) ?_
    (try simp only [Act.put, aT, aZ, aS])
    refine wpAnyH_ready (rs := [15]) (by kernel_rfl) (by simp) ?_
    refine AllReadyH.cons (o := ⟨some 65, .call { callee := .value (.func 12), args := #[.tmp 60, .tmp 64], argTypes := #[30, 30] }, 4, "law.go:86", #[⟨10, .data⟩, ⟨14, .data⟩, ⟨9, .chain⟩, ⟨9, .guard⟩], some (9, false)⟩) rfl (fun K hK => ?_) ?_
    · go_simp
      go_at_call 12
      refine (sameJobs_any e.J oa e.a e.n oc e.c _ HEN.out (by omega) (HO.out.up hBW) (HRG.out.up hBW)).mono ?_
      rintro e' wX ⟨rfl, hbX⟩
      have hBW_ := hBW.trans (hbX.mono hBW.size)
      clear hBW
      have hBW := hBW_
      clear hBW_ hbX
      go_wp2_with fail
      refine hK.out _ _ hBW (fun _ => ?_)
      clear hK K
      (try simp only [Act.put, aT, aZ, aS])
      refine wpAnyH_take (i := 16) (oi := ⟨some 66, .unOp .not 4 (.tmp 65), 4, "law.go:86", #[⟨15, .data⟩, ⟨9, .guard⟩], some (9, false)⟩) (v := ?_) rfl (by kernel_rfl) (by kernel_rfl) (by kernel_rfl) (fun _ _ _ h => by cases h.1) (.inl ⟨by rfl, ?_⟩) (by assumption) ?_
      rotate_left
      · (intro w' hSw; (try dsimp only at hSw); skip; go_simp <;> with_reducible rfl)
      (try simp only [Act.put, aT, aZ, aS])
      refine wpAnyH_take (i := 17) (oi := ⟨some 67, .pick (.tmp 59) (.const (.bool true)) (.tmp 66), 4, "law.go:86", #[⟨9, .data⟩, ⟨16, .data⟩], none⟩) (v := ?_) rfl (by kernel_rfl) (by kernel_rfl) (by kernel_rfl) (fun _ _ _ h => by cases h.1) (.inl ⟨by rfl, ?_⟩) (by assumption) ?_
      rotate_left
      · (intro w' hSw; (try dsimp only at hSw); skip; go_simp <;> with_reducible rfl)
      (try simp only [Act.put, aT, aZ, aS])
      refine wpAnyH_done (by kernel_rfl) ?_ _
      exact ⟨rfl, _, _, _, _, _, _, _, _, _, _, _, _, _, _, _, _, _, rfl, hBW⟩
    exact AllReadyH.nil
  exact AllReadyH.nil
set_option maxHeartbeats 4000000 in
set_option maxRecDepth 1000000 in
theorem lbp2 {w1 : World} {g : Nat} {es : List Ent} {w0 : World} {k : Nat} {e : Ent} {Q : Exit → Act → World → Prop} {oa : Option Addr} {oc g8 : Nat} {sa : Option Addr} {sn sc : Nat} {ev : Int} {w : World} {u0 u1 u2 u3 u4 u5 u11 u12 u13 u14 u15 u16 u17 u18 u19 u20 u21 u22 u23 u24 u25 u26 u27 u28 u29 u30 u31 u32 u33 u34 u35 u36 u37 u38 u39 u40 u41 u42 u43 u44 u45 u46 u47 u48 u49 u50 u51 u52 u53 u54 u55 u56 u57 u58 u59 u60 u61 u62 u63 u64 u65 u66 u67 u68 : Value} (hs : SL w0 w1 g es) (hk : es[k]? = some e) (hk3 : k < 3) (hQ : LQ Q w1 g k) (hB : Below w1.heap.size w1 w) (h8 : Bk w g8 30 (jobC e.J (.slice oa e.n oc))) (ho : Rg w w.heap.size oa e.J.sh) (hx : SX e.J w sa sn ev) : Code.wp Try.prog lb2 Q ⟨#[u0, u1, u2, u3, u4, u5, (.slice (some ⟨g, 0, none⟩) 3 3), (.int .i64 ↑k), (.pointer (some ⟨g8, 0, none⟩)), (.slice sa sn sc), (.int .i64 ev), u11, u12, u13, u14, u15, u16, u17, u18, u19, u20, u21, u22, u23, u24, u25, u26, u27, u28, u29, u30, u31, u32, u33, u34, u35, u36, u37, u38, u39, u40, u41, u42, u43, u44, u45, u46, u47, u48, u49, u50, u51, u52, u53, u54, u55, u56, u57, u58, u59, u60, u61, u62, u63, u64, u65, u66, u67, u68], []⟩ w := by
  rw [lb2_eq]
  obtain ⟨hrg, hen, hen30⟩ := hs.each e (List.mem_of_getElem? hk)
  have HEN := hidMk hen
  have HRG := hidMk (hrg.up hB)
  have HS := hidMk hs
  have HQ := hidMk hQ
  have HR := hidMk (hs.row hk hB)
  have HB := hidMk hB
  have HK := hidMk hk
  have hwz := hB.size
  have hnm : e.n ≤ 9223372036854775807 := by omega
  have H8 := hidMk h8
  have HO := hidMk ho
  have HX := hidMk hx
  clear hx
  clear h8 ho
  clear hs hQ hB hk hrg hen
  go_wp2_with (refine wpList_load_midA rfl 30 _ rfl g (k * 18) rfl (jobC e.J (.slice e.a e.n e.c)) _ HR.out Try.underlying30 rfl szJob ?_)
  refine (refShort_any e.J e.a e.n e.c _ HEN.out hnm HRG.out).mono ?_
  rintro e' w2 ans
  obtain ⟨ta, tn, tc, fv, rfl, hy, hb2⟩ := shortX_ans ans
  clear ans
  have HY := hidMk hy
  have HX' := hidMk (HX.out.up hb2)
  have HB2 := hidMk (HB.out.trans (hb2.mono hwz))
  have H8' := hidMk (H8.out.below hb2 H8.out.lt)
  have HO' := hidMk (HO.out.up hb2)
  clear hy hb2
  go_wp2_with fail
  exact lbp3 HS.out HK.out hk3 HQ.out HB2.out H8'.out HO'.out HX'.out HY.out
set_option maxHeartbeats 4000000 in
set_option maxRecDepth 1000000 in
theorem lbp1 {w1 : World} {g : Nat} {es : List Ent} {w0 : World} {k : Nat} {e : Ent} {Q : Exit → Act → World → Prop} {oa : Option Addr} {oc g8 : Nat} {w : World} {u0 u1 u2 u3 u4 u5 u9 u10 u11 u12 u13 u14 u15 u16 u17 u18 u19 u20 u21 u22 u23 u24 u25 u26 u27 u28 u29 u30 u31 u32 u33 u34 u35 u36 u37 u38 u39 u40 u41 u42 u43 u44 u45 u46 u47 u48 u49 u50 u51 u52 u53 u54 u55 u56 u57 u58 u59 u60 u61 u62 u63 u64 u65 u66 u67 u68 : Value} (hso : ShortOK) (hs : SL w0 w1 g es) (hk : es[k]? = some e) (hk3 : k < 3) (hQ : LQ Q w1 g k) (hB : Below w1.heap.size w1 w) (h8 : Bk w g8 30 (jobC e.J (.slice oa e.n oc))) (ho : Rg w w.heap.size oa e.J.sh) : Code.wp Try.prog lb1 Q ⟨#[u0, u1, u2, u3, u4, u5, (.slice (some ⟨g, 0, none⟩) 3 3), (.int .i64 ↑k), (.pointer (some ⟨g8, 0, none⟩)), u9, u10, u11, u12, u13, u14, u15, u16, u17, u18, u19, u20, u21, u22, u23, u24, u25, u26, u27, u28, u29, u30, u31, u32, u33, u34, u35, u36, u37, u38, u39, u40, u41, u42, u43, u44, u45, u46, u47, u48, u49, u50, u51, u52, u53, u54, u55, u56, u57, u58, u59, u60, u61, u62, u63, u64, u65, u66, u67, u68], []⟩ w := by
  rw [lb1_eq]
  have HSO := hidMk hso
  clear hso
  obtain ⟨hrg, hen, hen30⟩ := hs.each e (List.mem_of_getElem? hk)
  have HEN := hidMk hen
  have HRG := hidMk (hrg.up hB)
  have HS := hidMk hs
  have HQ := hidMk hQ
  have HR := hidMk (hs.row hk hB)
  have HB := hidMk hB
  have HK := hidMk hk
  have hwz := hB.size
  have hnm : e.n ≤ 9223372036854775807 := by omega
  have H8 := hidMk h8
  have HO := hidMk ho
  clear h8 ho
  clear hs hQ hB hk hrg hen
  go_wp2_with (refine wpList_load_row rfl 30 _ rfl g8 rfl _ (jobC e.J (.slice oa e.n oc)) _ _ H8.out Try.underlying30 rfl szJob ?_)
  refine (shortX_any HSO.out e.J oa e.n oc _ HEN.out hnm HO.out).mono ?_
  rintro e' w2 ans
  obtain ⟨sa, sn, sc, ev, rfl, hx, hb2⟩ := shortX_ans ans
  clear ans
  have HX := hidMk hx
  have HB2 := hidMk (HB.out.trans (hb2.mono hwz))
  have H8' := hidMk (H8.out.below hb2 H8.out.lt)
  have HO' := hidMk (HO.out.up hb2)
  clear hx hb2
  go_wp2_with fail
  exact lbp2 HS.out HK.out hk3 HQ.out HB2.out H8'.out HO'.out HX.out
set_option maxHeartbeats 4000000 in
set_option maxRecDepth 1000000 in
theorem lbp0 {w1 : World} {g : Nat} {es : List Ent} {w0 : World} {k : Nat} {e : Ent} {Q : Exit → Act → World → Prop} {w : World} {u0 u1 u2 u3 u4 u5 u8 u9 u10 u11 u12 u13 u14 u15 u16 u17 u18 u19 u20 u21 u22 u23 u24 u25 u26 u27 u28 u29 u30 u31 u32 u33 u34 u35 u36 u37 u38 u39 u40 u41 u42 u43 u44 u45 u46 u47 u48 u49 u50 u51 u52 u53 u54 u55 u56 u57 u58 u59 u60 u61 u62 u63 u64 u65 u66 u67 u68 : Value} (hso : ShortOK) (hs : SL w0 w1 g es) (hk : es[k]? = some e) (hk3 : k < 3) (hQ : LQ Q w1 g k) (hB : Below w1.heap.size w1 w) : Code.wp Try.prog lb0 Q ⟨#[u0, u1, u2, u3, u4, u5, (.slice (some ⟨g, 0, none⟩) 3 3), (.int .i64 ↑k), u8, u9, u10, u11, u12, u13, u14, u15, u16, u17, u18, u19, u20, u21, u22, u23, u24, u25, u26, u27, u28, u29, u30, u31, u32, u33, u34, u35, u36, u37, u38, u39, u40, u41, u42, u43, u44, u45, u46, u47, u48, u49, u50, u51, u52, u53, u54, u55, u56, u57, u58, u59, u60, u61, u62, u63, u64, u65, u66, u67, u68], []⟩ w := by
  rw [lb0_eq]
  obtain ⟨hrg, hen, hen30⟩ := hs.each e (List.mem_of_getElem? hk)
  have HEN := hidMk hen
  have HRG := hidMk (hrg.up hB)
  have HS := hidMk hs
  have HQ := hidMk hQ
  have HR := hidMk (hs.row hk hB)
  have HB := hidMk hB
  have HK := hidMk hk
  have hwz := hB.size
  have hnm : e.n ≤ 9223372036854775807 := by omega
  clear hs hQ hB hk hrg hen
  go_wp2_with (refine wpList_load_midA rfl 30 _ rfl g (k * 18) rfl (jobC e.J (.slice e.a e.n e.c)) _ HR.out Try.underlying30 rfl szJob ?_)
  refine (copyJob_any e.J e.a e.n e.c _ HEN.out (by omega) HRG.out).mono ?_
  rintro e' w2 ⟨oa, oc, rfl, own, hb2⟩
  obtain ⟨_, _, e2, -, hog⟩ := Rg.of_own own
  cases e2
  have hz2 := hb2.size
  have HOG := hidMk hog
  have HB2 := hidMk (HB.out.trans (hb2.mono hwz))
  clear own hog hb2
  go_wp2_with (first | (refine wpList_store_row rfl 30 _ _ rfl w2.heap.size (jobC e.J (.slice oa e.n oc)) rfl rfl _ _ (Bk.new _ _ _) szJob rfl (oneJob _ _ _ _) ?_; rw [World.setRow_alloc_new]))
  exact lbp1 hso HS.out HK.out hk3 HQ.out (HB2.out.alloc (by omega) _) (Bk.new _ _ _) (HOG.out.up ((Below.refl _ _).alloc (Nat.le_refl _) _))
end Go.Proofs.Ytbbekjcldbbhiaa
