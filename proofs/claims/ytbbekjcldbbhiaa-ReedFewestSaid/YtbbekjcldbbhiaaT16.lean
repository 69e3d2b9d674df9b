/- Part 16 of the proof: Few. -/
import Derived.Deep.WholeRow
import Derived.Test.YtbbekjcldbbhiaaT15
import Derived.Test.YtbbekjcldbbhiaaT14
import Derived.Test.YtbbekjcldbbhiaaT12
/- The law ReedFewest. -/
namespace Go.Proofs.Ytbbekjcldbbhiaa
set_option linter.all false
open Go.RowKit
noncomputable def sndC : Code → Code
  | .seq _ c => c
  | c => c
noncomputable def fwbody : Code := Try.f4.body.getD .skip
noncomputable def fwrest1 : Code := sndC fwbody
noncomputable def fwrest2 : Code := sndC fwrest1
noncomputable def fwrest3 : Code := sndC fwrest2
noncomputable def fwrest4 : Code := sndC fwrest3
noncomputable def fwrest5 : Code := sndC fwrest4
set_option maxRecDepth 1000000 in
theorem fwbody_eq : fwbody = .seq (Code.region 0 #[⟨some 2, .assign (.const (.bool false)), 4, "outright.go:274", #[], none⟩] false) fwrest1 := by kernel_rfl
set_option maxRecDepth 1000000 in
theorem fwrest1_eq : fwrest1 = .seq (Code.region 1 #[⟨some 12, .move (.tmp 0), 31, "outright.go:275", #[], none⟩, ⟨some 13, .call { callee := .value (.func 6), args := #[.tmp 12], argTypes := #[31] }, 33, "outright.go:275", #[⟨0, .data⟩], none⟩, ⟨some 3, .assign (.tmp 13), 33, "outright.go:275", #[⟨1, .data⟩, ⟨1, .chain⟩, ⟨0, .phase⟩, ⟨1, .phase⟩], none⟩] false) fwrest2 := by kernel_rfl
set_option maxRecDepth 1000000 in
theorem fwrest2_eq : fwrest2 = .seq (Code.region 2 #[⟨some 14, .move (.tmp 3), 33, "outright.go:276", #[], none⟩, ⟨some 15, .move (.tmp 3), 33, "outright.go:276", #[], none⟩, ⟨some 16, .call { callee := .value (.func 13), args := #[.tmp 15, .const (.int .i64 1)], argTypes := #[33, 3] }, 3, "outright.go:276", #[⟨1, .data⟩], none⟩, ⟨some 17, .call { callee := .value (.func 7), args := #[.tmp 14, .const (.int .i64 1), .tmp 16], argTypes := #[33, 3, 3] }, 30, "outright.go:276", #[⟨0, .data⟩, ⟨2, .data⟩, ⟨2, .chain⟩], none⟩, ⟨some 4, .alloc 30, 0, "outright.go:276", #[], none⟩, ⟨none, .store 30 (.tmp 4) (.tmp 17), 0, "outright.go:276", #[⟨4, .data⟩, ⟨3, .data⟩, ⟨3, .chain⟩, ⟨0, .phase⟩, ⟨1, .phase⟩, ⟨2, .phase⟩, ⟨3, .phase⟩, ⟨4, .phase⟩], none⟩] false) fwrest3 := by kernel_rfl
set_option maxRecDepth 1000000 in
theorem fwrest3_eq : fwrest3 = .seq (Code.region 3 #[⟨some 19, .load 30 (.tmp 4), 30, "outright.go:277", #[], none⟩, ⟨some 20, .call { callee := .value (.func 9), args := #[.tmp 19], argTypes := #[30] }, 39, "outright.go:277", #[⟨0, .data⟩], none⟩, ⟨some 18, .move (.tmp 20), 39, "outright.go:277", #[⟨1, .data⟩], none⟩, ⟨some 21, .extract (.tmp 18) 0, 31, "outright.go:277", #[⟨2, .data⟩], none⟩, ⟨some 22, .extract (.tmp 18) 1, 38, "outright.go:277", #[⟨2, .data⟩, ⟨5, .gcOnly .lateStores⟩], none⟩, ⟨some 5, .assign (.tmp 21), 31, "outright.go:277", #[⟨3, .data⟩, ⟨1, .chain⟩, ⟨0, .phase⟩, ⟨1, .phase⟩, ⟨2, .phase⟩, ⟨3, .phase⟩, ⟨4, .textOnly .lateStores⟩], none⟩, ⟨some 6, .assign (.tmp 22), 38, "outright.go:277", #[⟨4, .data⟩, ⟨5, .chain⟩, ⟨0, .phase⟩, ⟨1, .phase⟩, ⟨2, .phase⟩, ⟨3, .phase⟩, ⟨4, .phase⟩, ⟨5, .phase⟩], none⟩] false) fwrest4 := by kernel_rfl
set_option maxRecDepth 1000000 in
theorem fwrest4_eq : fwrest4 = .seq (.seq (Code.region 4 #[⟨some 7, .assign (.const (.int .i64 0)), 3, "outright.go:278", #[], none⟩] false) (.block 0 (.loop (.seq (.seq (Code.region 5 #[⟨some 23, .move (.tmp 7), 3, "outright.go:278", #[], none⟩, ⟨some 24, .binOp .leq 3 (.tmp 23) (.const (.int .i64 6)) 3, 4, "outright.go:278", #[⟨0, .data⟩], none⟩] false) (.cond (.tmp 24) .skip (.exit 0))) (.seq (.block 1 (.seq (Code.region 7 #[⟨some 27, .move (.tmp 7), 3, "outright.go:279", #[], none⟩, ⟨some 28, .call { callee := .value (.func 14), args := #[.tmp 27], argTypes := #[3] }, 45, "outright.go:279", #[⟨0, .data⟩], none⟩, ⟨some 8, .assign (.tmp 28), 45, "outright.go:279", #[⟨1, .data⟩, ⟨1, .chain⟩, ⟨0, .phase⟩, ⟨1, .phase⟩], none⟩] false) (.seq (Code.region 8 #[⟨some 9, .assign (.const (.int .i64 0)), 3, "outright.go:280", #[], none⟩] false) (.block 2 (.loop (.seq (.seq (Code.region 9 #[⟨some 29, .move (.tmp 9), 3, "outright.go:280", #[], none⟩, ⟨some 30, .move (.tmp 8), 45, "outright.go:280", #[], none⟩, ⟨some 31, .call { callee := .builtin .len, args := #[.tmp 30], argTypes := #[45] }, 3, "outright.go:280", #[⟨1, .data⟩], none⟩, ⟨some 32, .binOp .lss 3 (.tmp 29) (.tmp 31) 3, 4, "outright.go:280", #[⟨0, .data⟩, ⟨2, .data⟩], none⟩] false) (.cond (.tmp 32) .skip (.exit 2))) (.seq (.block 3 (.seq (Code.region 11 #[⟨some 36, .load 30 (.tmp 4), 30, "outright.go:281", #[], none⟩, ⟨some 37, .move (.tmp 8), 45, "outright.go:281", #[], none⟩, ⟨some 38, .move (.tmp 9), 3, "outright.go:281", #[], none⟩, ⟨some 39, .indexAddr 45 (.tmp 37) (.tmp 38), 0, "outright.go:281", #[⟨1, .data⟩, ⟨2, .data⟩], none⟩, ⟨some 40, .load 31 (.tmp 39), 31, "outright.go:281", #[⟨3, .data⟩], none⟩, ⟨some 41, .call { callee := .value (.func 15), args := #[.tmp 36, .tmp 40], argTypes := #[30, 31] }, 47, "outright.go:281", #[⟨0, .data⟩, ⟨4, .data⟩], none⟩, ⟨some 35, .move (.tmp 41), 47, "outright.go:281", #[⟨5, .data⟩], none⟩, ⟨some 42, .extract (.tmp 35) 0, 3, "outright.go:281", #[⟨6, .data⟩], none⟩, ⟨some 43, .extract (.tmp 35) 1, 38, "outright.go:281", #[⟨6, .data⟩, ⟨9, .gcOnly .lateStores⟩], none⟩, ⟨some 10, .assign (.tmp 42), 3, "outright.go:281", #[⟨7, .data⟩, ⟨5, .chain⟩, ⟨0, .phase⟩, ⟨1, .phase⟩, ⟨2, .phase⟩, ⟨3, .phase⟩, ⟨4, .phase⟩, ⟨5, .phase⟩, ⟨6, .phase⟩, ⟨7, .phase⟩, ⟨8, .textOnly .lateStores⟩], none⟩, ⟨some 11, .assign (.tmp 43), 38, "outright.go:281", #[⟨8, .data⟩, ⟨9, .chain⟩, ⟨0, .phase⟩, ⟨1, .phase⟩, ⟨2, .phase⟩, ⟨3, .phase⟩, ⟨4, .phase⟩, ⟨5, .phase⟩, ⟨6, .phase⟩, ⟨7, .phase⟩, ⟨8, .phase⟩, ⟨9, .phase⟩], none⟩] true) (.seq (.seq (Code.region 12 #[⟨some 44, .move (.tmp 11), 38, "outright.go:282", #[], none⟩, ⟨some 45, .binOp .neq 38 (.tmp 44) (.const (.int .i64 0)) 38, 4, "outright.go:282", #[⟨0, .data⟩], none⟩] false) (.cond (.tmp 45) (.seq (Code.region 13 #[⟨some 2, .assign (.const (.bool false)), 4, "outright.go:283", #[], none⟩] false) .ret) .skip)) (.seq (Code.region 14 #[⟨some 46, .move (.tmp 10), 3, "outright.go:285", #[], none⟩, ⟨some 47, .binOp .eql 3 (.tmp 46) (.const (.int .i64 1)) 3, 4, "outright.go:285", #[⟨0, .data⟩], none⟩] false) (.cond (.tmp 47) (.seq (Code.region 15 #[⟨some 48, .move (.tmp 6), 38, "outright.go:286", #[], none⟩, ⟨some 49, .binOp .eql 38 (.tmp 48) (.const (.int .i64 0)) 38, 4, "outright.go:286", #[⟨0, .data⟩], none⟩, ⟨some 50, .move (.tmp 49), 4, "outright.go:286", #[⟨1, .data⟩], none⟩, ⟨some 51, .move (.tmp 5), 31, "outright.go:286", #[⟨2, .guard⟩], some (2, true)⟩, ⟨some 52, .move (.tmp 8), 45, "outright.go:286", #[⟨2, .guard⟩], some (2, true)⟩, ⟨some 53, .move (.tmp 9), 3, "outright.go:286", #[⟨2, .guard⟩], some (2, true)⟩, ⟨some 54, .indexAddr 45 (.tmp 52) (.tmp 53), 0, "outright.go:286", #[⟨4, .data⟩, ⟨5, .data⟩, ⟨2, .guard⟩], some (2, true)⟩, ⟨some 55, .load 31 (.tmp 54), 31, "outright.go:286", #[⟨6, .data⟩, ⟨2, .guard⟩], some (2, true)⟩, ⟨some 56, .call { callee := .value (.func 11), args := #[.tmp 51, .tmp 55], argTypes := #[31, 31] }, 4, "outright.go:286", #[⟨3, .data⟩, ⟨7, .data⟩, ⟨2, .chain⟩, ⟨2, .guard⟩], some (2, true)⟩, ⟨some 57, .pick (.tmp 50) (.tmp 56) (.const (.bool false)), 4, "outright.go:286", #[⟨2, .data⟩, ⟨8, .data⟩], none⟩, ⟨some 58, .move (.tmp 57), 4, "outright.go:286", #[⟨9, .data⟩, ⟨8, .chain⟩], none⟩, ⟨some 59, .call { callee := .value (.func 5), args := #[], argTypes := #[] }, 4, "outright.go:286", #[⟨10, .chain⟩, ⟨10, .guard⟩], some (10, true)⟩, ⟨some 60, .pick (.tmp 58) (.tmp 59) (.const (.bool false)), 4, "outright.go:286", #[⟨10, .data⟩, ⟨11, .data⟩], none⟩, ⟨some 2, .assign (.tmp 60), 4, "outright.go:286", #[⟨12, .data⟩, ⟨11, .chain⟩, ⟨0, .phase⟩, ⟨1, .phase⟩, ⟨2, .phase⟩, ⟨3, .phase⟩, ⟨4, .phase⟩, ⟨5, .phase⟩, ⟨6, .phase⟩, ⟨7, .phase⟩, ⟨8, .phase⟩, ⟨9, .phase⟩, ⟨10, .phase⟩, ⟨11, .phase⟩, ⟨12, .phase⟩], none⟩] false) .ret) .skip))))) (Code.region 10 #[⟨some 33, .move (.tmp 9), 3, "outright.go:280", #[], none⟩, ⟨some 34, .binOp .add 3 (.tmp 33) (.const (.int .i64 1)) 3, 3, "outright.go:280", #[⟨0, .data⟩], none⟩, ⟨some 9, .assign (.tmp 34), 3, "outright.go:280", #[⟨1, .data⟩, ⟨0, .phase⟩, ⟨1, .phase⟩], none⟩] false)))))))) (Code.region 6 #[⟨some 25, .move (.tmp 7), 3, "outright.go:278", #[], none⟩, ⟨some 26, .binOp .add 3 (.tmp 25) (.const (.int .i64 1)) 3, 3, "outright.go:278", #[⟨0, .data⟩], none⟩, ⟨some 7, .assign (.tmp 26), 3, "outright.go:278", #[⟨1, .data⟩, ⟨0, .phase⟩, ⟨1, .phase⟩], none⟩] false)))))) fwrest5 := by kernel_rfl
set_option maxRecDepth 1000000 in
theorem fwrest5_eq : fwrest5 = .seq (Code.region 16 #[⟨some 61, .move (.tmp 6), 38, "outright.go:290", #[], none⟩, ⟨some 62, .binOp .eql 38 (.tmp 61) (.const (.int .i64 11)) 38, 4, "outright.go:290", #[⟨0, .data⟩], none⟩, ⟨some 63, .move (.tmp 62), 4, "outright.go:290", #[⟨1, .data⟩], none⟩, ⟨some 64, .move (.tmp 5), 31, "outright.go:290", #[⟨2, .guard⟩], some (2, true)⟩, ⟨some 65, .call { callee := .builtin .len, args := #[.tmp 64], argTypes := #[31] }, 3, "outright.go:290", #[⟨3, .data⟩, ⟨2, .guard⟩], some (2, true)⟩, ⟨some 66, .binOp .eql 3 (.tmp 65) (.const (.int .i64 0)) 3, 4, "outright.go:290", #[⟨4, .data⟩, ⟨2, .guard⟩], some (2, true)⟩, ⟨some 67, .pick (.tmp 63) (.tmp 66) (.const (.bool false)), 4, "outright.go:290", #[⟨2, .data⟩, ⟨5, .data⟩], none⟩, ⟨some 68, .move (.tmp 67), 4, "outright.go:290", #[⟨6, .data⟩, ⟨2, .chain⟩], none⟩, ⟨some 69, .call { callee := .value (.func 5), args := #[], argTypes := #[] }, 4, "outright.go:290", #[⟨7, .chain⟩, ⟨7, .guard⟩], some (7, true)⟩, ⟨some 70, .pick (.tmp 68) (.tmp 69) (.const (.bool false)), 4, "outright.go:290", #[⟨7, .data⟩, ⟨8, .data⟩], none⟩, ⟨some 2, .assign (.tmp 70), 4, "outright.go:290", #[⟨9, .data⟩, ⟨8, .chain⟩, ⟨0, .phase⟩, ⟨1, .phase⟩, ⟨2, .phase⟩, ⟨3, .phase⟩, ⟨4, .phase⟩, ⟨5, .phase⟩, ⟨6, .phase⟩, ⟨7, .phase⟩, ⟨8, .phase⟩, ⟨9, .phase⟩], none⟩] false) .ret := by kernel_rfl

def TunOK : Prop := ∀ w : World, Calls Try.prog 5 #[] w fun e w' => e = .returned (.bool true) ∧ Below w.heap.size w w'
/-- What JobOf is known to hand back. -/
def JobP9 (b : Nat) (w : World) (e : Ending) (w' : World) : Prop :=
  ∃ (J : Jb) (a : Option Addr) (n c : Nat), e = .returned (.agg (jobC J (.slice a n c))) ∧ n = J.sh.length ∧ Rg w' w'.heap.size a J.sh ∧ J.check = 0 ∧ PB b w.heap.size w w' ∧ Pt w' b
def JobOK1 : Prop := ∀ (b : Nat) (w : World) (x : Int), Pt w b → 0 ≤ x ∧ x ≤ 1 → Calls Try.prog 7 #[.pointer (some ⟨b, 0, none⟩), .int .i64 1, .int .i64 x] w (JobP9 b w)
/-- Whether a tongue is fine after strokes. -/
def fineS (J : Jb) (l : List Int) : Int := fineI J (afterS J J.tg l)
/-- The first list of strokes after which the tongue always is fine: fewer strokes first, then in lexicographic order. -/
def FirstS (J : Jb) (n i : Nat) (l : List Int) : Prop := n ≤ 6 ∧ (plansL n)[i]? = some l ∧ fineS J l = 1 ∧ (∀ n', n' < n → ∀ l' ∈ plansL n', fineS J l' ≠ 1) ∧ ∀ i', i' < i → ∀ l', (plansL n)[i']? = some l' → fineS J l' ≠ 1
def NoneS (J : Jb) : Prop := ∀ n, n ≤ 6 → ∀ l ∈ plansL n, fineS J l ≠ 1
def ShortQ (J : Jb) (w : World) (e : Ending) (w' : World) : Prop :=
  ((∃ n i l a c, FirstS J n i l ∧ e = .returned (.tuple #[.slice a n c, .int .i64 0]) ∧ Is w' w'.heap.size a l) ∨ (NoneS J ∧ e = .returned (.tuple #[.slice none 0 0, .int .i64 11]))) ∧ Below w.heap.size w w'
def ShortOK : Prop := ∀ (J : Jb) (a : Option Addr) (n c : Nat) (w : World), J.check = 0 → n = J.sh.length → n ≤ 9223372036854775807 → Rg w w.heap.size a J.sh → Calls Try.prog 9 #[.agg (jobC J (.slice a n c))] w (ShortQ J w)
/-- What stands in the law's two variables. -/
def SQ (J : Jb) (w : World) (sa : Option Addr) (sn : Nat) (ev : Int) : Prop :=
  (ev = 0 ∧ ∃ i l, FirstS J sn i l ∧ Is w w.heap.size sa l) ∨ (ev = 11 ∧ sn = 0 ∧ NoneS J)
theorem plans_12 : ∀ n, ∀ l ∈ plansL n, ∀ x ∈ l, x = 1 ∨ x = 2
  | 0, l, h, x, hx => by
    rw [List.mem_singleton.1 h] at hx
    cases hx
  | n + 1, l, h, x, hx => by
    rcases List.mem_append.1 h with h | h <;> obtain ⟨l', h', rfl⟩ := List.mem_map.1 h <;> rcases List.mem_cons.1 hx with rfl | hx
    · exact .inl rfl
    · exact plans_12 n l' h' x hx
    · exact .inr rfl
    · exact plans_12 n l' h' x hx
theorem kindE_0 : ∀ (l : List Int), (∀ x ∈ l, x = 1 ∨ x = 2) → kindE l = 0
  | [], _ => rfl
  | x :: l, h => by
    unfold kindE
    rw [if_pos (h x List.mem_cons_self)]
    exact kindE_0 l fun y hy => h y (List.mem_cons_of_mem _ hy)
theorem filed_plan {J : Jb} (hc : J.check = 0) {n : Nat} (hn : n ≤ 6) {l : List Int} (h : l ∈ plansL n) : filedE J l = 0 := by
  unfold filedE strokesE
  rw [if_pos hc, if_neg (by rw [plansL_each n l h]; omega)]
  exact kindE_0 l (plans_12 n l h)
theorem fineX_plan {J : Jb} (hc : J.check = 0) {n : Nat} (hn : n ≤ 6) {l : List Int} (h : l ∈ plansL n) : fineX J l = (fineS J l, 0) := by
  unfold fineX
  rw [if_pos (filed_plan hc hn h)]
  rfl
theorem first_sole {J : Jb} {n i k j : Nat} {l p : List Int} (h : FirstS J n i l) (h2 : FirstS J k j p) : n = k ∧ l = p := by
  obtain ⟨h1, h2', h3, h4, h5⟩ := h
  obtain ⟨g1, g2, g3, g4, g5⟩ := h2
  have hm : l ∈ plansL n := List.mem_of_getElem? h2'
  have gm : p ∈ plansL k := List.mem_of_getElem? g2
  have e1 : n = k := by
    rcases Nat.lt_trichotomy n k with h | h | h
    · exact absurd h3 (g4 n h l hm)
    · exact h
    · exact absurd g3 (h4 k h p gm)
  subst e1
  have e2 : i = j := by
    rcases Nat.lt_trichotomy i j with h | h | h
    · exact absurd h3 (g5 i h l h2')
    · exact h
    · exact absurd g3 (h5 j h p g2)
  subst e2
  rw [h2'] at g2
  exact ⟨rfl, by injection g2⟩
def QFW (w0 : World) : Exit → Act → World → Prop := bodyPost Try.prog Try.f4 fun e w' => e = .returned (.bool true) ∧ Below w0.heap.size w0 w'
set_option maxHeartbeats 4000000 in
set_option maxRecDepth 1000000 in
theorem fwpart4 {w0 w : World} {g4 : Nat} {M : Jb} {ma : Option Addr} {mn mc : Nat} {sa : Option Addr} {sn sc : Nat} {ev : Int} {u0 u1 u2 u3 u7 u8 u9 u10 u11 u12 u13 u14 u15 u16 u17 u18 u19 u20 u21 u22 u23 u24 u25 u26 u27 u28 u29 u30 u31 u32 u33 u34 u35 u36 u37 u38 u39 u40 u41 u42 u43 u44 u45 u46 u47 u48 u49 u50 u51 u52 u53 u54 u55 u56 u57 u58 u59 u60 u61 u62 u63 u64 u65 u66 u67 u68 u69 u70 : Value} (htun : TunOK) (hfine : FineOK) (hb0 : Below w0.heap.size w0 w) (hj : Bk w g4 30 (jobC M (.slice ma mn mc))) (hrg : Rg w w.heap.size ma M.sh) (hme : mn = M.sh.length) (hck : M.check = 0) (hsq : SQ M w sa sn ev) : Code.wp Try.prog fwrest4 (QFW w0) ⟨#[u0, u1, u2, u3, (.pointer (some ⟨g4, 0, none⟩)), (.slice sa sn sc), (.int .i64 ev), u7, u8, u9, u10, u11, u12, u13, u14, u15, u16, u17, u18, u19, u20, u21, u22, u23, u24, u25, u26, u27, u28, u29, u30, u31, u32, u33, u34, u35, u36, u37, u38, u39, u40, u41, u42, u43, u44, u45, u46, u47, u48, u49, u50, u51, u52, u53, u54, u55, u56, u57, u58, u59, u60, u61, u62, u63, u64, u65, u66, u67, u68, u69, u70], []⟩ w := by
  rw [fwrest4_eq]
  have HT := hidMk htun
  have HF := hidMk hfine
  have HB0 := hidMk hb0
  have HJ := hidMk hj
  have HRG := hidMk hrg
  have HME := hidMk hme
  have HCK := hidMk hck
  have HSQ := hidMk hsq
  have hmm : mn ≤ 9223372036854775807 := by have h4 := (check_ok hck).inn.len; omega
  clear htun hfine hb0 hj hrg hme hck hsq
  unfold QFW
  refine wp_seq_k fun K0 hK0 => ?_
  go_wp2_with fail
  go_loopw [7] (fun mv wr => ∃ k : Nat, k ≤ 7 ∧ mv = .int .i64 k ∧ Hid (∀ n', n' < k → ∀ l' ∈ plansL n', fineS M l' ≠ 1) ∧ Below w.heap.size w wr) (fun mv _ => 7 - (intOf mv).toNat)
  case atStart => exact ⟨0, by decide, rfl, hidMk (fun n' h => absurd h (Nat.not_lt_zero _)), Below.refl _ _⟩
  case round =>
    obtain ⟨k, hk7, rfl, HN, hB⟩ := hrel
    by_cases hk6i : (k : Int) ≤ 6
    · have hk6 : k ≤ 6 := by omega
      go_wp2_with fail
      refine (plans_any k hk6 _).mono ?_
      rintro e w5 ⟨pa, pc, rfl, hpl, hb5⟩
      obtain ⟨N, HNN⟩ : ∃ N, Hid (N = (plansL k).length) := ⟨_, hidMk rfl⟩
      have hN64 : N ≤ 64 := by
        rw [HNN.out, plansL_len]
        exact Nat.pow_le_pow_right (n := 2) (by decide) hk6
      rw [← HNN.out]
      have HPL := hidMk hpl
      have hB5 : Below w.heap.size w w5 := hB.trans (hb5.mono hB.size)
      have HB5 := hidMk hB5
      clear hpl hb5 hB hB5
      go_wp2_with fail
      go_loopw [9] (fun iv wi => ∃ i : Nat, i ≤ N ∧ iv = .int .i64 i ∧ Hid (∀ i', i' < i → ∀ l', (plansL k)[i']? = some l' → fineS M l' ≠ 1) ∧ Below w5.heap.size w5 wi) (fun iv _ => N - (intOf iv).toNat)
      case atStart => exact ⟨0, Nat.zero_le _, rfl, hidMk (fun i' h => absurd h (Nat.not_lt_zero _)), Below.refl _ _⟩
      case round =>
        obtain ⟨i, hiN, rfl, HI, hBo⟩ := hrel
        have hB := HB5.out.trans (hBo.mono HB5.out.size)
        by_cases hlt : i < N
        · have hil : i < (plansL k).length := by rw [← HNN.out]; exact hlt
          obtain ⟨p, Hp⟩ : ∃ p, Hid (p = (plansL k)[i]) := ⟨_, hidMk rfl⟩
          have hp : (plansL k)[i]? = some p := by rw [Hp.out]; exact List.getElem?_eq_getElem hil
          obtain ⟨b, off, la, lc, rfl, hb5, hc5, hp5⟩ := HPL.out i p hp
          have hcw := (hBo.cell (p := ⟨b, off + i, none⟩) hb5).trans hc5
          have hbw : b < wr.heap.size := Nat.lt_of_lt_of_le hb5 hBo.size
          have HPI := hidMk (hp5.up hBo)
          have hmem : p ∈ plansL k := List.mem_of_getElem? hp
          have hpl6 : p.length ≤ 6 := by rw [plansL_each k p hmem]; exact hk6
          have hpm : p.length ≤ 9223372036854775807 := by omega
          have HFX := hidMk (fineX_plan HCK.out hk6 hmem)
          have hi0 : (0 : Int) ≤ (i : Int) := by omega
          have hi1 : (i : Int) < (N : Int) := by omega
          clear hc5 hp5
          go_wp2_with fail
          refine region_via (R := fun a_ e_ a' w' => e_ = .normal ∧ ∃ (v36 v37 v38 v39 v40 v41 v35 v42 v43 : Value), a' = (((((((((((a_.put (some 36) v36).put (some 37) v37).put (some 38) v38).put (some 39) v39).put (some 40) v40).put (some 41) v41).put (some 35) v35).put (some 42) v42).put (some 43) v43).put (some 10) (.int .i64 (fineS M p))).put (some 11) (.int .i64 0)) ∧ Below wr.heap.size wr w') ?_ ?_
          rotate_left
          · rintro e_ a' w' ⟨rfl, v36, v37, v38, v39, v40, v41, v35, v42, v43, rfl, al⟩
            simp only [Act.put, aT, aZ, aS]
            have hB2 : Below w.heap.size w w' := hB.trans (al.mono hB.size)
            have hcell2 := (al.cell (p := ⟨b, off + i, none⟩) hbw).trans hcw
            have HP2 := hidMk (HPI.out.up al)
            have AL := hidMk al
            clear al
            by_cases hf1 : fineS M p = 1
            · have hf1b : (fineS M p == 1) = true := by rw [hf1]; rfl
              have HFi := hidMk (show FirstS M k i p from ⟨hk6, hp, hf1, HN.out, HI.out⟩)
              rcases HSQ.out with ⟨rfl, i0, l0, hfs, his⟩ | ⟨rfl, rfl, hno⟩
              · obtain ⟨e1, e2⟩ := first_sole hfs HFi.out
                subst e2
                have hsnl : sn = l0.length := by rw [plansL_each sn l0 (List.mem_of_getElem? hfs.2.1)]
                have HSI := hidMk ((his.up hB).up AL.out)
                have HSN := hidMk hsnl
                have hsm : sn ≤ 1000 := by have := hfs.1; omega
                have hlm : l0.length ≤ 1000 := by rw [← HSN.out]; exact hsm
                clear his hfs hsnl e1 hf1
                rw [show (fineS M l0) = 1 from HFi.out.2.2.1]
                go_wp2_with fail
                refine (sameInts_any sa la sn sc l0.length lc l0 l0 _ HSN.out rfl hsm hlm HSI.out HP2.out).mono ?_
                rintro e' w5 ⟨rfl, hb5⟩
                have hde : decide (l0 = l0) = true := decide_eq_true rfl
                rw [hde]
                go_wp2_with fail
                refine (HT.out _).mono ?_
                rintro e' w6 ⟨rfl, hb6⟩
                have hB6 := hidMk (HB0.out.trans (((hB2.trans (hb5.mono hB2.size)).trans (hb6.mono (Nat.le_trans hB2.size hb5.size))).mono HB0.out.size))
                clear hb5 hb6
                go_wp2_with fail
                go_ret
                exact ⟨rfl, hB6.out⟩
              · exact absurd hf1 (hno k hk6 p (List.mem_of_getElem? hp))
            · have hf1b : (fineS M p == 1) = false := by rw [beq_eq_false_iff_ne]; exact hf1
              have HB2 := hidMk hB2
              have HBB := hidMk (hBo.trans (AL.out.mono hBo.size))
              clear hcell2 hB2
              go_wp2_with fail
              go_roundw
              case rel =>
                refine ⟨i + 1, by omega, by go_num, hidMk (fun i' hi' l' hl' => ?_), HBB.out⟩
                by_cases h : i' < i
                · exact HI.out i' h l' hl'
                · obtain rfl : i' = i := by omega
                  rw [hp] at hl'
                  cases hl'
                  exact hf1
              case measure => simp [intOf]; omega
          have hBW : Below wr.heap.size wr wr.drew := (Below.refl _ _).drew
          refine wp_region_held_drew (S := fun w' => Below wr.heap.size wr w') (by kernel_rfl) hBW (fun hS0 => ?_)
          generalize hWd : wr.drew = wd at hS0 hBW ⊢
          clear hWd
          refine wpAnyH_take (i := 0) (oi := ⟨some 36, .load 30 (.tmp 4), 30, "outright.go:281", #[], none⟩) rfl (by kernel_rfl) (by kernel_rfl) (by kernel_rfl) (fun _ _ _ h => by cases h.1) (yields_row (by rfl) 30 _ rfl g4 (jobC M (.slice ma mn mc)) rfl 30 (fun w' hw => (HJ.out.below hB HJ.out.lt).below hw (HJ.out.below hB HJ.out.lt).lt) Try.underlying30 szJob) (by assumption) ?_
          (try simp only [Act.put, aT, aZ, aS])
          refine wpAnyH_take (i := 1) (oi := ⟨some 37, .move (.tmp 8), 45, "outright.go:281", #[], none⟩) (v := ?_) rfl (by kernel_rfl) (by kernel_rfl) (by kernel_rfl) (fun _ _ _ h => by cases h.1) (.inl ⟨by rfl, ?_⟩) (by assumption) ?_
          rotate_left
          · (intro w' hSw; (try dsimp only at hSw); (have hrd := (hSw.cell (p := ⟨b, off + i, none⟩) hbw).trans hcw); go_simp <;> with_reducible rfl)
          (try simp only [Act.put, aT, aZ, aS])
          refine wpAnyH_take (i := 2) (oi := ⟨some 38, .move (.tmp 9), 3, "outright.go:281", #[], none⟩) (v := ?_) rfl (by kernel_rfl) (by kernel_rfl) (by kernel_rfl) (fun _ _ _ h => by cases h.1) (.inl ⟨by rfl, ?_⟩) (by assumption) ?_
          rotate_left
          · (intro w' hSw; (try dsimp only at hSw); (have hrd := (hSw.cell (p := ⟨b, off + i, none⟩) hbw).trans hcw); go_simp <;> with_reducible rfl)
          (try simp only [Act.put, aT, aZ, aS])
          refine wpAnyH_take (i := 3) (oi := ⟨some 39, .indexAddr 45 (.tmp 37) (.tmp 38), 0, "outright.go:281", #[⟨1, .data⟩, ⟨2, .data⟩], none⟩) (v := ?_) rfl (by kernel_rfl) (by kernel_rfl) (by kernel_rfl) (fun _ _ _ h => by cases h.1) (.inl ⟨by rfl, ?_⟩) (by assumption) ?_
          rotate_left
          · (intro w' hSw; (try dsimp only at hSw); (have hrd := (hSw.cell (p := ⟨b, off + i, none⟩) hbw).trans hcw); go_simp <;> with_reducible rfl)
          (try simp only [Act.put, aT, aZ, aS])
          refine wpAnyH_take (i := 4) (oi := ⟨some 40, .load 31 (.tmp 39), 31, "outright.go:281", #[⟨3, .data⟩], none⟩) (v := ?_) rfl (by kernel_rfl) (by kernel_rfl) (by kernel_rfl) (fun _ _ _ h => by cases h.1) (.inl ⟨by rfl, ?_⟩) (by assumption) ?_
          rotate_left
          · (intro w' hSw; (try dsimp only at hSw); (have hrd := (hSw.cell (p := ⟨b, off + i, none⟩) hbw).trans hcw); go_simp <;> with_reducible rfl)
          (try simp only [Act.put, aT, aZ, aS])
          refine wpAnyH_ready (rs := [5]) (by kernel_rfl) (by simp) ?_
          refine AllReadyH.cons (o := ⟨some 41, .call { callee := .value (.func 15), args := #[.tmp 36, .tmp 40], argTypes := #[30, 31] }, 47, "outright.go:281", #[⟨0, .data⟩, ⟨4, .data⟩], none⟩) rfl (fun K hK => ?_) ?_
          · go_simp
            go_at_call 15
            refine (fineF_any HF.out M ma mn mc la p.length lc p _ HME.out hmm ((HRG.out.up hB).up hBW) rfl hpm (HPI.out.up hBW)).mono ?_
            rintro e' wX ⟨rfl, hbX⟩
            rw [HFX.out]
            have hBW_ := hBW.trans (hbX.mono hBW.size)
            clear hBW
            have hBW := hBW_
            clear hBW_
            clear hbX
            go_wp2_with fail
            refine hK.out _ _ hBW (fun _ => ?_)
            clear hK K
            (try simp only [Act.put, aT, aZ, aS])
            refine wpAnyH_take (i := 6) (oi := ⟨some 35, .move (.tmp 41), 47, "outright.go:281", #[⟨5, .data⟩], none⟩) (v := ?_) rfl (by kernel_rfl) (by kernel_rfl) (by kernel_rfl) (fun _ _ _ h => by cases h.1) (.inl ⟨by rfl, ?_⟩) (by assumption) ?_
            rotate_left
            · (intro w' hSw; (try dsimp only at hSw); (have hrd := (hSw.cell (p := ⟨b, off + i, none⟩) hbw).trans hcw); go_simp <;> with_reducible rfl)
            (try simp only [Act.put, aT, aZ, aS])
            refine wpAnyH_take (i := 7) (oi := ⟨some 42, .extract (.tmp 35) 0, 3, "outright.go:281", #[⟨6, .data⟩], none⟩) (v := ?_) rfl (by kernel_rfl) (by kernel_rfl) (by kernel_rfl) (fun _ _ _ h => by cases h.1) (.inl ⟨by rfl, ?_⟩) (by assumption) ?_
            rotate_left
            · (intro w' hSw; (try dsimp only at hSw); (have hrd := (hSw.cell (p := ⟨b, off + i, none⟩) hbw).trans hcw); go_simp <;> with_reducible rfl)
            (try simp only [Act.put, aT, aZ, aS])
            refine wpAnyH_take (i := 8) (oi := ⟨some 43, .extract (.tmp 35) 1, 38, "outright.go:281", #[⟨6, .data⟩, ⟨9, .gcOnly .lateStores⟩], none⟩) (v := ?_) rfl (by kernel_rfl) (by kernel_rfl) (by kernel_rfl) (fun _ _ _ h => by cases h.1) (.inl ⟨by rfl, ?_⟩) (by assumption) ?_
            rotate_left
            · (intro w' hSw; (try dsimp only at hSw); (have hrd := (hSw.cell (p := ⟨b, off + i, none⟩) hbw).trans hcw); go_simp <;> with_reducible rfl)
            (try simp only [Act.put, aT, aZ, aS])
            refine wpAnyH_ready (rs := [9]) (by kernel_rfl) (by simp) ?_
            refine AllReadyH.cons (o := ⟨some 10, .assign (.tmp 42), 3, "outright.go:281", #[⟨7, .data⟩, ⟨5, .chain⟩, ⟨0, .phase⟩, ⟨1, .phase⟩, ⟨2, .phase⟩, ⟨3, .phase⟩, ⟨4, .phase⟩, ⟨5, .phase⟩, ⟨6, .phase⟩, ⟨7, .phase⟩, ⟨8, .textOnly .lateStores⟩], none⟩) rfl (fun K hK => ?_) ?_
            · go_simp
              refine hK.out _ _ hBW (fun _ => ?_)
              clear hK K
              (try simp only [Act.put, aT, aZ, aS])
              refine wpAnyH_ready (rs := [10]) (by kernel_rfl) (by simp) ?_
              refine AllReadyH.cons (o := ⟨some 11, .assign (.tmp 43), 38, "outright.go:281", #[⟨8, .data⟩, ⟨9, .chain⟩, ⟨0, .phase⟩, ⟨1, .phase⟩, ⟨2, .phase⟩, ⟨3, .phase⟩, ⟨4, .phase⟩, ⟨5, .phase⟩, ⟨6, .phase⟩, ⟨7, .phase⟩, ⟨8, .phase⟩, ⟨9, .phase⟩], none⟩) rfl (fun K hK => ?_) ?_
              · go_simp
                refine hK.out _ _ hBW (fun _ => ?_)
                clear hK K
                (try simp only [Act.put, aT, aZ, aS])
                refine wpAnyH_done (by kernel_rfl) ?_ _
                exact ⟨rfl, _, _, _, _, _, _, _, _, _, rfl, hBW⟩
              exact AllReadyH.nil
            exact AllReadyH.nil
          exact AllReadyH.nil
        · obtain rfl : i = N := by omega
          have HBk := hidMk hB
          clear hB hBo
          go_wp2_with fail
          go_roundw
          case rel =>
            refine ⟨k + 1, by omega, by go_num, hidMk (fun n' hn' l' hl' => ?_), HBk.out⟩
            by_cases h : n' < k
            · exact HN.out n' h l' hl'
            · obtain rfl : n' = k := by omega
              obtain ⟨j, hj, e⟩ := List.getElem_of_mem hl'
              exact HI.out j (by rw [HNN.out]; exact hj) l' (by rw [List.getElem?_eq_getElem hj, e])
          case measure => simp [intOf]; omega
    · obtain rfl : k = 7 := by omega
      have HNO := hidMk (show NoneS M from fun n hn l hl => HN.out n (by omega) l hl)
      have HB2 := hidMk (HB0.out.trans (hB.mono HB0.out.size))
      clear hB
      rcases HSQ.out with ⟨rfl, i0, l0, hfs, his⟩ | ⟨rfl, rfl, hno⟩
      · exact absurd hfs.2.2.1 (HNO.out sn hfs.1 l0 (List.mem_of_getElem? hfs.2.1))
      · go_wp2_with fail
        rw [fwrest5_eq]
        go_wp2_with fail
        refine (HT.out _).mono ?_
        rintro e' w6 ⟨rfl, hb6⟩
        have HB6 := hidMk (HB2.out.trans (hb6.mono HB2.out.size))
        clear hb6
        go_wp2_with fail
        go_ret
        exact ⟨rfl, HB6.out⟩
set_option maxHeartbeats 2000000 in
set_option maxRecDepth 100000 in
theorem fewest_any (hjob : JobOK1) (hshort : ShortOK) (hfine : FineOK) (htun : TunOK) (na : Option Addr) (nn nc : Nat) (nl : List Int) (w : World) (hnn : nn = nl.length) (hnm : nn ≤ 9223372036854775807) (hnl : Is w w.heap.size na nl) :
    Calls Try.prog 4 #[.slice na nn nc] w fun e w' => e = .returned (.bool true) ∧ Below w.heap.size w w' := by
  have HJ := hidMk hjob
  have HS := hidMk hshort
  have HF := hidMk hfine
  have HT := hidMk htun
  have HNN := hidMk hnn
  have HNL := hidMk hnl
  clear hjob hshort hfine htun hnn hnl
  go_enter Try.func4, Try.ntmps4
  show Code.wp Try.prog fwbody (QFW w) _ _
  rw [fwbody_eq]
  go_wp2_with fail
  rw [fwrest1_eq]
  go_wp2_with fail
  refine (newPot_any na nn nc nl _ HNN.out hnm HNL.out).mono ?_
  rintro e w1 ⟨s, t, rfl, hb, hB1⟩
  have hp1 : Pt w1 w.heap.size := ⟨_, _, hb⟩
  have HB1 := hidMk hB1
  have hz1 := hB1.size
  clear hb hB1
  go_wp2_with fail
  rw [fwrest2_eq]
  go_wp2_with fail
  refine (uptoP _ 1 _ hp1 (by decide)).mono ?_
  rintro e w2 ⟨x, rfl, hx, hk2, hp2⟩
  have hz2 := hk2.size
  have HX := hidMk hx
  clear hx
  go_wp2_with fail
  refine (HJ.out _ _ x hp2 HX.out).mono ?_
  rintro e w3 ⟨M, ma, mn, mc, rfl, hmn, hmg, hck, hk3, hp3⟩
  have hz3 := hk3.size
  have hB3 : Below w.heap.size w w3 := (HB1.out.trans ((hk2.mono hz1).toBelow (Nat.le_refl _))).trans ((hk3.mono (Nat.le_trans hz1 hz2)).toBelow (Nat.le_refl _))
  have al : Below w3.heap.size w3 (w3.alloc (.cells (jobC M (.slice ma mn mc)) 30)) := (Below.refl _ _).alloc (Nat.le_refl _) _
  have hB4 := hB3.alloc (by omega) (.cells (jobC M (.slice ma mn mc)) 30)
  have hrg4 := hmg.up al
  have hb4 : Bk (w3.alloc (.cells (jobC M (.slice ma mn mc)) 30)) w3.heap.size 30 (jobC M (.slice ma mn mc)) := Bk.new _ _ _
  have hmm : mn ≤ 9223372036854775807 := by have h4 := (check_ok hck).inn.len; omega
  have HCK := hidMk hck
  have HMN := hidMk hmn
  clear hmg hck hmn hk2 hk3 hp1 hp2 hp3 hB3 al
  go_wp2_with (first | (refine wpList_store_row rfl 30 _ _ rfl w3.heap.size (jobC M (.slice ma mn mc)) rfl rfl _ _ (Bk.new _ _ _) szJob rfl (oneJob _ _ _ _) ?_; rw [World.setRow_alloc_new]))
  generalize hW4 : w3.alloc (.cells (jobC M (.slice ma mn mc)) 30) = w4 at hB4 hrg4 hb4 ⊢
  generalize hG4 : w3.heap.size = g4 at hb4 ⊢
  clear hW4 hG4
  have HB4 := hidMk hB4
  have HR4 := hidMk hrg4
  have HK4 := hidMk hb4
  clear hB4 hrg4 hb4
  rw [fwrest3_eq]
  go_wp2_with (refine wpList_load_row rfl 30 _ rfl g4 rfl _ (jobC M (.slice ma mn mc)) _ _ HK4.out Try.underlying30 rfl szJob ?_)
  refine (HS.out M ma mn mc _ HCK.out HMN.out hmm HR4.out).mono ?_
  rintro e w5 ⟨hans, hb5⟩
  have HB5 := hidMk (HB4.out.trans (hb5.mono HB4.out.size))
  have HR5 := hidMk (HR4.out.up hb5)
  have HK5 := hidMk (HK4.out.below hb5 HK4.out.lt)
  clear hb5
  rcases hans with ⟨n, i, l, sa, sc, hfs, rfl, his⟩ | ⟨hno, rfl⟩
  · have HSQ := hidMk (show SQ M w5 sa n 0 from .inl ⟨rfl, i, l, hfs, his⟩)
    clear hfs his
    go_wp2_with fail
    exact fwpart4 HT.out HF.out HB5.out HK5.out HR5.out HMN.out HCK.out HSQ.out
  · have HSQ := hidMk (show SQ M w5 none 0 11 from .inr ⟨rfl, rfl, hno⟩)
    clear hno
    go_wp2_with fail
    exact fwpart4 HT.out HF.out HB5.out HK5.out HR5.out HMN.out HCK.out HSQ.out
end Go.Proofs.Ytbbekjcldbbhiaa
