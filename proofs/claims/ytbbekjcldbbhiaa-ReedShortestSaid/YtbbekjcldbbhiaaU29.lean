/- Part 29 of the proof: RefE. -/
import Derived.Test.YtbbekjcldbbhiaaU28
/- The contract of the reference's passes. -/
namespace Go.Proofs.Ytbbekjcldbbhiaa
set_option linter.all false
open Go.RowKit
noncomputable def psbody : Code := Try.f52.body.getD .skip
noncomputable def psrest1 : Code := sndC psbody
noncomputable def psrest2 : Code := sndC psrest1
noncomputable def psrest3 : Code := sndC psrest2
noncomputable def psrest4 : Code := sndC psrest3
set_option maxRecDepth 1000000 in
theorem psbody_eq : psbody = .seq (Code.region 0 #[⟨some 2, .box 30 (.tmp 0), 0, "ref.go:90", #[], none⟩, ⟨some 3, .box 23 (.tmp 1), 0, "ref.go:90", #[], none⟩, ⟨some 4, .assign (.const (.int .i64 0)), 3, "ref.go:90", #[], none⟩] false) psrest1 := by kernel_rfl
set_option maxRecDepth 1000000 in
theorem psrest1_eq : psrest1 = .seq (.seq (Code.region 1 #[⟨some 9, .load 23 (.tmp 3), 23, "ref.go:91", #[], none⟩, ⟨some 10, .load 30 (.tmp 2), 30, "ref.go:91", #[], none⟩, ⟨some 11, .call { callee := .value (.func 65), args := #[.tmp 10], argTypes := #[30] }, 23, "ref.go:91", #[⟨1, .data⟩], none⟩, ⟨some 12, .call { callee := .value (.func 64), args := #[.tmp 9, .tmp 11], argTypes := #[23, 23] }, 4, "ref.go:91", #[⟨0, .data⟩, ⟨2, .data⟩, ⟨2, .chain⟩], none⟩] true) (.cond (.tmp 12) (.seq (Code.region 2 #[⟨some 4, .assign (.const (.int .i64 1)), 3, "ref.go:92", #[], none⟩] false) .ret) .skip)) psrest2 := by kernel_rfl
set_option maxRecDepth 1000000 in
theorem psrest2_eq : psrest2 = .seq (Code.region 3 #[⟨some 13, .load 30 (.tmp 2), 30, "ref.go:94", #[], none⟩, ⟨some 14, .call { callee := .value (.func 66), args := #[.tmp 13], argTypes := #[30] }, 28, "ref.go:94", #[⟨0, .data⟩], none⟩, ⟨some 5, .assign (.tmp 14), 28, "ref.go:94", #[⟨1, .data⟩, ⟨1, .chain⟩, ⟨0, .phase⟩, ⟨1, .phase⟩], none⟩] false) psrest3 := by kernel_rfl
set_option maxRecDepth 1000000 in
theorem psrest3_eq : psrest3 = .seq (.seq (Code.region 4 #[⟨some 15, .fieldAddr 23 (.tmp 3) 0, 0, "ref.go:95", #[], none⟩, ⟨some 16, .load 3 (.tmp 15), 3, "ref.go:95", #[⟨0, .data⟩], none⟩, ⟨some 6, .assign (.tmp 16), 3, "ref.go:95", #[⟨1, .data⟩, ⟨0, .phase⟩, ⟨1, .phase⟩], none⟩] false) (.block 0 (.loop (.seq (.seq (Code.region 5 #[⟨some 17, .move (.tmp 6), 3, "ref.go:95", #[], none⟩, ⟨some 18, .fieldAddr 23 (.tmp 3) 1, 0, "ref.go:95", #[], none⟩, ⟨some 19, .load 3 (.tmp 18), 3, "ref.go:95", #[⟨1, .data⟩], none⟩, ⟨some 20, .binOp .leq 3 (.tmp 17) (.tmp 19) 3, 4, "ref.go:95", #[⟨0, .data⟩, ⟨2, .data⟩], none⟩] false) (.cond (.tmp 20) .skip (.exit 0))) (.seq (.block 1 (.seq (Code.region 7 #[⟨some 7, .assign (.const (.bool true)), 4, "ref.go:96", #[], none⟩] false) (.seq (.seq (Code.region 8 #[⟨some 8, .assign (.const (.int .i64 0)), 3, "ref.go:97", #[], none⟩] false) (.block 2 (.loop (.seq (.seq (Code.region 9 #[⟨some 23, .move (.tmp 8), 3, "ref.go:97", #[], none⟩, ⟨some 24, .move (.tmp 5), 28, "ref.go:97", #[], none⟩, ⟨some 25, .call { callee := .builtin .len, args := #[.tmp 24], argTypes := #[28] }, 3, "ref.go:97", #[⟨1, .data⟩], none⟩, ⟨some 26, .binOp .lss 3 (.tmp 23) (.tmp 25) 3, 4, "ref.go:97", #[⟨0, .data⟩, ⟨2, .data⟩], none⟩] false) (.cond (.tmp 26) .skip (.exit 2))) (.seq (.block 3 (Code.region 11 #[⟨some 29, .move (.tmp 7), 4, "ref.go:98", #[], none⟩, ⟨some 30, .move (.tmp 29), 4, "ref.go:98", #[⟨0, .data⟩], none⟩, ⟨some 31, .move (.tmp 6), 3, "ref.go:98", #[⟨1, .guard⟩], some (1, true)⟩, ⟨some 32, .move (.tmp 5), 28, "ref.go:98", #[⟨1, .guard⟩], some (1, true)⟩, ⟨some 33, .move (.tmp 8), 3, "ref.go:98", #[⟨1, .guard⟩], some (1, true)⟩, ⟨some 34, .indexAddr 28 (.tmp 32) (.tmp 33), 0, "ref.go:98", #[⟨3, .data⟩, ⟨4, .data⟩, ⟨1, .guard⟩], some (1, true)⟩, ⟨some 35, .fieldAddr 23 (.tmp 34) 1, 0, "ref.go:98", #[⟨5, .data⟩, ⟨1, .guard⟩], some (1, true)⟩, ⟨some 36, .load 3 (.tmp 35), 3, "ref.go:98", #[⟨6, .data⟩, ⟨1, .guard⟩], some (1, true)⟩, ⟨some 37, .binOp .add 3 (.tmp 31) (.tmp 36) 3, 3, "ref.go:98", #[⟨2, .data⟩, ⟨7, .data⟩, ⟨1, .guard⟩], some (1, true)⟩, ⟨some 38, .fieldAddr 30 (.tmp 2) 3, 0, "ref.go:98", #[⟨1, .guard⟩], some (1, true)⟩, ⟨some 39, .load 3 (.tmp 38), 3, "ref.go:98", #[⟨9, .data⟩, ⟨1, .guard⟩], some (1, true)⟩, ⟨some 40, .unOp .neg 3 (.tmp 39), 3, "ref.go:98", #[⟨10, .data⟩, ⟨1, .guard⟩], some (1, true)⟩, ⟨some 41, .binOp .geq 3 (.tmp 37) (.tmp 40) 3, 4, "ref.go:98", #[⟨8, .data⟩, ⟨11, .data⟩, ⟨1, .guard⟩], some (1, true)⟩, ⟨some 42, .pick (.tmp 30) (.tmp 41) (.const (.bool false)), 4, "ref.go:98", #[⟨1, .data⟩, ⟨12, .data⟩], none⟩, ⟨some 43, .move (.tmp 42), 4, "ref.go:98", #[⟨13, .data⟩, ⟨1, .chain⟩], none⟩, ⟨some 44, .move (.tmp 6), 3, "ref.go:98", #[⟨14, .guard⟩], some (14, true)⟩, ⟨some 45, .move (.tmp 5), 28, "ref.go:98", #[⟨14, .guard⟩], some (14, true)⟩, ⟨some 46, .move (.tmp 8), 3, "ref.go:98", #[⟨14, .guard⟩], some (14, true)⟩, ⟨some 47, .indexAddr 28 (.tmp 45) (.tmp 46), 0, "ref.go:98", #[⟨16, .data⟩, ⟨17, .data⟩, ⟨14, .guard⟩], some (14, true)⟩, ⟨some 48, .fieldAddr 23 (.tmp 47) 0, 0, "ref.go:98", #[⟨18, .data⟩, ⟨14, .guard⟩], some (14, true)⟩, ⟨some 49, .load 3 (.tmp 48), 3, "ref.go:98", #[⟨19, .data⟩, ⟨14, .guard⟩], some (14, true)⟩, ⟨some 50, .binOp .add 3 (.tmp 44) (.tmp 49) 3, 3, "ref.go:98", #[⟨15, .data⟩, ⟨20, .data⟩, ⟨14, .guard⟩], some (14, true)⟩, ⟨some 51, .fieldAddr 30 (.tmp 2) 3, 0, "ref.go:98", #[⟨14, .guard⟩], some (14, true)⟩, ⟨some 52, .load 3 (.tmp 51), 3, "ref.go:98", #[⟨22, .data⟩, ⟨14, .guard⟩], some (14, true)⟩, ⟨some 53, .binOp .leq 3 (.tmp 50) (.tmp 52) 3, 4, "ref.go:98", #[⟨21, .data⟩, ⟨23, .data⟩, ⟨14, .guard⟩], some (14, true)⟩, ⟨some 54, .pick (.tmp 43) (.tmp 53) (.const (.bool false)), 4, "ref.go:98", #[⟨14, .data⟩, ⟨24, .data⟩], none⟩, ⟨some 7, .assign (.tmp 54), 4, "ref.go:98", #[⟨25, .data⟩, ⟨14, .chain⟩, ⟨0, .phase⟩, ⟨1, .phase⟩, ⟨2, .phase⟩, ⟨3, .phase⟩, ⟨4, .phase⟩, ⟨5, .phase⟩, ⟨6, .phase⟩, ⟨7, .phase⟩, ⟨8, .phase⟩, ⟨9, .phase⟩, ⟨10, .phase⟩, ⟨11, .phase⟩, ⟨12, .phase⟩, ⟨13, .phase⟩, ⟨14, .phase⟩, ⟨15, .phase⟩, ⟨16, .phase⟩, ⟨17, .phase⟩, ⟨18, .phase⟩, ⟨19, .phase⟩, ⟨20, .phase⟩, ⟨21, .phase⟩, ⟨22, .phase⟩, ⟨23, .phase⟩, ⟨24, .phase⟩, ⟨25, .phase⟩], none⟩] true)) (Code.region 10 #[⟨some 27, .move (.tmp 8), 3, "ref.go:97", #[], none⟩, ⟨some 28, .binOp .add 3 (.tmp 27) (.const (.int .i64 1)) 3, 3, "ref.go:97", #[⟨0, .data⟩], none⟩, ⟨some 8, .assign (.tmp 28), 3, "ref.go:97", #[⟨1, .data⟩, ⟨0, .phase⟩, ⟨1, .phase⟩], none⟩] false)))))) (.seq (Code.region 12 #[⟨some 55, .move (.tmp 7), 4, "ref.go:100", #[], none⟩] false) (.cond (.tmp 55) (.seq (Code.region 13 #[⟨some 4, .assign (.const (.int .i64 3)), 3, "ref.go:101", #[], none⟩] false) .ret) .skip))))) (Code.region 6 #[⟨some 21, .move (.tmp 6), 3, "ref.go:95", #[], none⟩, ⟨some 22, .binOp .add 3 (.tmp 21) (.const (.int .i64 1)) 3, 3, "ref.go:95", #[⟨0, .data⟩], none⟩, ⟨some 6, .assign (.tmp 22), 3, "ref.go:95", #[⟨1, .data⟩, ⟨0, .phase⟩, ⟨1, .phase⟩], none⟩] false)))))) psrest4 := by kernel_rfl
set_option maxRecDepth 1000000 in
theorem psrest4_eq : psrest4 = .seq (Code.region 14 #[⟨some 4, .assign (.const (.int .i64 2)), 3, "ref.go:104", #[], none⟩] false) .ret := by kernel_rfl

theorem meetL_iff' (n : Int) : ∀ (l : List R2) (r : R2), ((meetL r l).1 ≤ n ∧ n ≤ (meetL r l).2) ↔ (r.1 ≤ n ∧ n ≤ r.2) ∧ ∀ s ∈ l, s.1 ≤ n ∧ n ≤ s.2
  | [], r => by simp [meetL]
  | s :: l, r => by
    have ih := meetL_iff' n l (meet2 r s)
    have hs : ((meet2 r s).1 ≤ n ∧ n ≤ (meet2 r s).2) ↔ (r.1 ≤ n ∧ n ≤ r.2) ∧ (s.1 ≤ n ∧ n ≤ s.2) := by
      unfold meet2
      refine ⟨fun h => ?_, fun h => ?_⟩ <;> revert h <;> (repeat' split) <;> omega
    show ((meetL (meet2 r s) l).1 ≤ n ∧ n ≤ (meetL (meet2 r s) l).2) ↔ _
    rw [ih, hs]
    simp only [List.forall_mem_cons]
    exact ⟨fun ⟨⟨a, b⟩, d⟩ => ⟨a, b, d⟩, fun ⟨a, b, d⟩ => ⟨⟨a, b⟩, d⟩⟩
/-- Some shift of a condition takes a pitch near enough. -/
def okB (wi z : Int) (s : R2) : Bool := decide (-wi ≤ z + s.2) && decide (z + s.1 ≤ wi)
def okL (wi z : Int) (l : List R2) : Bool := l.foldl (fun v s => v && okB wi z s) true
theorem okL_snoc (wi z : Int) (l : List R2) (s : R2) : okL wi z (l ++ [s]) = (okL wi z l && okB wi z s) := by simp [okL]
theorem okL_iff (wi z : Int) (l : List R2) : okL wi z l = true ↔ ∀ s ∈ l, -wi - s.2 ≤ z ∧ z ≤ wi - s.1 := by
  have key : ∀ (l : List R2) (v : Bool), l.foldl (fun v s => v && okB wi z s) v = true ↔ v = true ∧ ∀ s ∈ l, -wi - s.2 ≤ z ∧ z ≤ wi - s.1 := by
    intro l
    induction l with
    | nil => intro v; simp
    | cons s l ih =>
      intro v
      show l.foldl _ (v && okB wi z s) = true ↔ _
      rw [ih]
      simp only [List.forall_mem_cons, Bool.and_eq_true, okB, decide_eq_true_eq]
      refine ⟨fun ⟨⟨hv, h1, h2⟩, h3⟩ => ⟨hv, ⟨by omega, by omega⟩, h3⟩, fun ⟨hv, ⟨h1, h2⟩, h3⟩ => ⟨⟨hv, by omega, by omega⟩, h3⟩⟩
  rw [okL, key]
  simp
theorem pos_ok (wi n : Int) (sh : List R2) : ((pos wi sh).1 ≤ n ∧ n ≤ (pos wi sh).2) ↔ okL wi n (conds sh) = true := by
  rw [okL_iff]
  have key : ∀ l : List R2, l ≠ [] → (((meetAll (l.map (possOf wi))).1 ≤ n ∧ n ≤ (meetAll (l.map (possOf wi))).2) ↔ ∀ s ∈ l, -wi - s.2 ≤ n ∧ n ≤ wi - s.1) := by
    intro l hl
    cases l with
    | nil => exact absurd rfl hl
    | cons s l =>
      show ((meetL (possOf wi s) (l.map (possOf wi))).1 ≤ n ∧ n ≤ (meetL (possOf wi s) (l.map (possOf wi))).2) ↔ _
      rw [meetL_iff']
      simp only [possOf, List.forall_mem_map, List.forall_mem_cons]
  refine key (conds sh) ?_
  unfold conds
  split
  · simp
  · assumption
theorem pass_3 {wi a b z : Int} {sh : List R2} (h0 : ¬ ((win wi sh).1 ≤ a ∧ b ≤ (win wi sh).2)) (hz : a ≤ z ∧ z ≤ b) (h : okL wi z (conds sh) = true) : passI wi sh a b = 3 := by
  have hp := (pos_ok wi z sh).2 h
  unfold passI
  rw [if_neg h0, if_neg]
  unfold meet2
  simp only
  split <;> split <;> omega
theorem pass_2 {wi a b : Int} {sh : List R2} (h0 : ¬ ((win wi sh).1 ≤ a ∧ b ≤ (win wi sh).2)) (h : ∀ z, a ≤ z → z ≤ b → ¬ okL wi z (conds sh) = true) : passI wi sh a b = 2 := by
  have hz : ∀ z, a ≤ z → z ≤ b → (pos wi sh).1 ≤ z → z ≤ (pos wi sh).2 → False := fun z h1 h2 h3 h4 => h z h1 h2 ((pos_ok wi z sh).1 ⟨h3, h4⟩)
  unfold passI
  rw [if_neg h0, if_pos]
  unfold meet2
  simp only
  refine Classical.byContradiction fun hn => ?_
  by_cases c1 : (pos wi sh).1 < a
  · refine hz a (Int.le_refl _) ?_ ?_ ?_ <;> revert hn <;> rw [if_pos c1] <;> split <;> omega
  · refine hz (pos wi sh).1 ?_ ?_ (Int.le_refl _) ?_ <;> revert hn <;> rw [if_neg c1] <;> split <;> omega
def QP (V : Int) (w0 : World) : Exit → Act → World → Prop := bodyPost Try.prog Try.f52 fun e w' => e = .returned (.int .i64 V) ∧ Below w0.heap.size w0 w'
structure PS (w0 w1 : World) (g1 g2 : Nat) (J : Jb) (a : Option Addr) (n c : Nat) (x y : Int) : Prop where
  job : Bk w1 g1 30 (jobC J (.slice a n c))
  ran : Bk w1 g2 23 #[.int .i64 x, .int .i64 y]
  b0 : Below w0.heap.size w0 w1
  rg : Rg w1 w1.heap.size a J.sh
  inn : J.In 200
  en : n = J.sh.length
  bx : (-1000 ≤ x ∧ x ≤ 1000) ∧ (-1000 ≤ y ∧ y ≤ 1000)
theorem PS.next {w0 w1 w2 : World} {g1 g2 : Nat} {J : Jb} {a : Option Addr} {n c : Nat} {x y : Int} (h : PS w0 w1 g1 g2 J a n c x y) (hb : Below w1.heap.size w1 w2) : PS w0 w2 g1 g2 J a n c x y :=
  ⟨h.job.below hb h.job.lt, h.ran.below hb h.ran.lt, h.b0.trans (hb.mono h.b0.size), h.rg.up hb, h.inn, h.en, h.bx⟩
set_option maxHeartbeats 4000000 in
set_option maxRecDepth 1000000 in
theorem pspart3 {w0 w1 : World} {g1 g2 : Nat} {J : Jb} {a : Option Addr} {n c : Nat} {x y V : Int} {q off m d : Nat} {u0 u1 u4 u6 u7 u8 u9 u10 u11 u12 u13 u14 u15 u16 u17 u18 u19 u20 u21 u22 u23 u24 u25 u26 u27 u28 u29 u30 u31 u32 u33 u34 u35 u36 u37 u38 u39 u40 u41 u42 u43 u44 u45 u46 u47 u48 u49 u50 u51 u52 u53 u54 u55 : Value} (hs : PS w0 w1 g1 g2 J a n c x y) (hV : V = passI J.wi J.sh x y) (h0 : ¬ ((win J.wi J.sh).1 ≤ x ∧ y ≤ (win J.wi J.sh).2)) (hc : Rg w1 w1.heap.size (some ⟨q, off, none⟩) (conds J.sh)) (hm : m = (conds J.sh).length) : Code.wp Try.prog psrest3 (QP V w0) ⟨#[u0, u1, (.pointer (some ⟨g1, 0, none⟩)), (.pointer (some ⟨g2, 0, none⟩)), u4, (.slice (some ⟨q, off, none⟩) m d), u6, u7, u8, u9, u10, u11, u12, u13, u14, u15, u16, u17, u18, u19, u20, u21, u22, u23, u24, u25, u26, u27, u28, u29, u30, u31, u32, u33, u34, u35, u36, u37, u38, u39, u40, u41, u42, u43, u44, u45, u46, u47, u48, u49, u50, u51, u52, u53, u54, u55], []⟩ w1 := by
  rw [psrest3_eq]
  unfold QP
  have hwi := hs.inn.wi
  obtain ⟨hwi1, hwi2⟩ := hwi
  obtain ⟨⟨hx1, hx2⟩, hy1, hy2⟩ := hs.bx
  have HM := hidMk hm
  have HV := hidMk hV
  have H0 := hidMk h0
  have hm4 : m ≤ 4 := by have := (conds_len J.sh hs.inn.len).2; omega
  clear hm hV h0
  have x0 := hs.ran.at_ 0 (.int .i64 x) rfl
  refine wp_seq_k fun K0 hK0 => ?_
  go_wp2_with fail
  clear x0
  go_loopw [6, 7, 8] (fun p _ _ wr => ∃ z : Int, p = .int .i64 z ∧ (x ≤ z ∧ (z ≤ y + 1 ∨ z = x)) ∧ Hid (∀ u, x ≤ u → u < z → ¬ okL J.wi u (conds J.sh) = true) ∧ Below w1.heap.size w1 wr) (fun p _ _ _ => (y + 1 - intOf p).toNat)
  case atStart => exact ⟨x, rfl, ⟨Int.le_refl _, .inr rfl⟩, fun u h1 h2 => absurd h1 (by omega), Below.refl _ _⟩
  case round =>
    obtain ⟨z, rfl, ⟨hz1, hz2⟩, HN, hB⟩ := hrel
    have y1 := (hs.ran.below hB hs.ran.lt).at_ 1 (.int .i64 y) rfl
    by_cases hlt : z ≤ y
    · go_wp2_with fail
      go_loopw [7, 8] (fun v i wi => ∃ (k : Nat) (vb : Bool), k ≤ m ∧ i = .int .i64 k ∧ v = .bool vb ∧ Hid (vb = okL J.wi z ((conds J.sh).take k)) ∧ Below w1.heap.size w1 wi) (fun _ i _ => m - (intOf i).toNat)
      case atStart => exact ⟨0, true, Nat.zero_le _, rfl, rfl, rfl, hB⟩
      case round =>
        clear hB y1
        obtain ⟨k, vb, hk, rfl, rfl, HO, hB⟩ := hrel
        by_cases hkm : k < m
        · have hkl : k < (conds J.sh).length := by rw [← HM.out]; exact hkm
          have hsb := conds_in J.sh hs.inn.sh _ (List.getElem_mem hkl)
          obtain ⟨q', off', e', hbl, e0, e1⟩ := hc k (conds J.sh)[k] (List.getElem?_eq_getElem hkl)
          cases e'
          have htk := hidMk (take_snoc (conds J.sh) k hkl)
          obtain ⟨s, Hs⟩ : ∃ s, Hid (s = (conds J.sh)[k]) := ⟨_, hidMk rfl⟩
          rw [← Hs.out] at e0 e1 hsb
          obtain ⟨sb1, sb2, sb3, sb4⟩ := hsb
          have HOK0 : Hid (okL J.wi z ((conds J.sh).take (k + 1)) = (vb && okB J.wi z s)) := by
            show _ = _
            rw [htk.out, okL_snoc, HO.out, Hs.out]
          have ew1 : IntKind.i64.wrap (-J.wi) = -J.wi := IntWalk.i64_in _ (by omega)
          have ew2 : IntKind.i64.wrap (z + s.2) = z + s.2 := IntWalk.i64_in _ (by omega)
          have ew3 : IntKind.i64.wrap (z + s.1) = z + s.1 := IntWalk.i64_in _ (by omega)
          cases vb
          · have HOK : Hid (false = okL J.wi z ((conds J.sh).take (k + 1))) := HOK0.out.symm
            go_wp2_with fail
            refine region_via (R := fun a_ e a' w' => e = .normal ∧ ∃ (v29 v30 v31 v32 v33 v34 v35 v36 v37 v38 v39 v40 v41 v42 v43 v44 v45 v46 v47 v48 v49 v50 v51 v52 v53 v54 : Value), a' = (((((((((((((((((((((((((((a_.put (some 29) v29).put (some 30) v30).put (some 31) v31).put (some 32) v32).put (some 33) v33).put (some 34) v34).put (some 35) v35).put (some 36) v36).put (some 37) v37).put (some 38) v38).put (some 39) v39).put (some 40) v40).put (some 41) v41).put (some 42) v42).put (some 43) v43).put (some 44) v44).put (some 45) v45).put (some 46) v46).put (some 47) v47).put (some 48) v48).put (some 49) v49).put (some 50) v50).put (some 51) v51).put (some 52) v52).put (some 53) v53).put (some 54) v54).put (some 7) (.bool false)) ∧ Below w1.heap.size w1 w') ?_ ?_
            rotate_left
            · rintro e a' w' ⟨rfl, v29, v30, v31, v32, v33, v34, v35, v36, v37, v38, v39, v40, v41, v42, v43, v44, v45, v46, v47, v48, v49, v50, v51, v52, v53, v54, rfl, hB'⟩
              simp only [Act.put, aT, aZ, aS]
              have HB' := hidMk hB'
              clear hB hB' e0 e1
              go_wp2_with fail
              go_roundw
              case rel => exact ⟨k + 1, false, by omega, by go_num, rfl, HOK.out, HB'.out⟩
              case measure => simp [intOf]; omega
            refine wp_region_held_drew (S := fun w' => Below w1.heap.size w1 w') (by kernel_rfl) hB.drew (fun hS0 => ?_)
            replace hB := hB.drew
            generalize hWd : wr.drew = wd at hS0 hB ⊢
            clear hWd
            refine wpAnyH_take (i := 0) (oi := ⟨some 29, .move (.tmp 7), 4, "ref.go:98", #[], none⟩) (v := ?_) rfl (by kernel_rfl) (by kernel_rfl) (by kernel_rfl) (fun _ _ _ h => by cases h.1) (.inl ⟨by rfl, ?_⟩) (by assumption) ?_
            rotate_left
            · (intro w' hSw; (try dsimp only at hSw); (have j16 := (hs.job.below hSw hs.job.lt).at_ 16 (.int .i64 J.wi) rfl; have s0 := (hSw.cell (p := ⟨q, off + k * 2, none⟩) hbl).trans e0; have s1 := (hSw.cell (p := ⟨q, off + k * 2 + 1, none⟩) hbl).trans e1); go_simp <;> with_reducible rfl)
            (try simp only [Act.put, aT, aZ, aS])
            refine wpAnyH_take (i := 1) (oi := ⟨some 30, .move (.tmp 29), 4, "ref.go:98", #[⟨0, .data⟩], none⟩) (v := ?_) rfl (by kernel_rfl) (by kernel_rfl) (by kernel_rfl) (fun _ _ _ h => by cases h.1) (.inl ⟨by rfl, ?_⟩) (by assumption) ?_
            rotate_left
            · (intro w' hSw; (try dsimp only at hSw); (have j16 := (hs.job.below hSw hs.job.lt).at_ 16 (.int .i64 J.wi) rfl; have s0 := (hSw.cell (p := ⟨q, off + k * 2, none⟩) hbl).trans e0; have s1 := (hSw.cell (p := ⟨q, off + k * 2 + 1, none⟩) hbl).trans e1); go_simp <;> with_reducible rfl)
            (try simp only [Act.put, aT, aZ, aS])
            refine wpAnyH_take (i := 2) (oi := ⟨some 31, .move (.tmp 6), 3, "ref.go:98", #[⟨1, .guard⟩], some (1, true)⟩) (v := undef) rfl (by kernel_rfl) (by kernel_rfl) (by kernel_rfl) (fun _ _ _ h => by cases h.1) (.inr ⟨by rfl, rfl⟩) (by assumption) ?_
            (try simp only [Act.put, aT, aZ, aS])
            refine wpAnyH_take (i := 3) (oi := ⟨some 32, .move (.tmp 5), 28, "ref.go:98", #[⟨1, .guard⟩], some (1, true)⟩) (v := undef) rfl (by kernel_rfl) (by kernel_rfl) (by kernel_rfl) (fun _ _ _ h => by cases h.1) (.inr ⟨by rfl, rfl⟩) (by assumption) ?_
            (try simp only [Act.put, aT, aZ, aS])
            refine wpAnyH_take (i := 4) (oi := ⟨some 33, .move (.tmp 8), 3, "ref.go:98", #[⟨1, .guard⟩], some (1, true)⟩) (v := undef) rfl (by kernel_rfl) (by kernel_rfl) (by kernel_rfl) (fun _ _ _ h => by cases h.1) (.inr ⟨by rfl, rfl⟩) (by assumption) ?_
            (try simp only [Act.put, aT, aZ, aS])
            refine wpAnyH_take (i := 5) (oi := ⟨some 34, .indexAddr 28 (.tmp 32) (.tmp 33), 0, "ref.go:98", #[⟨3, .data⟩, ⟨4, .data⟩, ⟨1, .guard⟩], some (1, true)⟩) (v := undef) rfl (by kernel_rfl) (by kernel_rfl) (by kernel_rfl) (fun _ _ _ h => by cases h.1) (.inr ⟨by rfl, rfl⟩) (by assumption) ?_
            (try simp only [Act.put, aT, aZ, aS])
            refine wpAnyH_take (i := 6) (oi := ⟨some 35, .fieldAddr 23 (.tmp 34) 1, 0, "ref.go:98", #[⟨5, .data⟩, ⟨1, .guard⟩], some (1, true)⟩) (v := undef) rfl (by kernel_rfl) (by kernel_rfl) (by kernel_rfl) (fun _ _ _ h => by cases h.1) (.inr ⟨by rfl, rfl⟩) (by assumption) ?_
            (try simp only [Act.put, aT, aZ, aS])
            refine wpAnyH_take (i := 7) (oi := ⟨some 36, .load 3 (.tmp 35), 3, "ref.go:98", #[⟨6, .data⟩, ⟨1, .guard⟩], some (1, true)⟩) (v := undef) rfl (by kernel_rfl) (by kernel_rfl) (by kernel_rfl) (fun _ _ _ h => by cases h.1) (.inr ⟨by rfl, rfl⟩) (by assumption) ?_
            (try simp only [Act.put, aT, aZ, aS])
            refine wpAnyH_take (i := 8) (oi := ⟨some 37, .binOp .add 3 (.tmp 31) (.tmp 36) 3, 3, "ref.go:98", #[⟨2, .data⟩, ⟨7, .data⟩, ⟨1, .guard⟩], some (1, true)⟩) (v := undef) rfl (by kernel_rfl) (by kernel_rfl) (by kernel_rfl) (fun _ _ _ h => by cases h.1) (.inr ⟨by rfl, rfl⟩) (by assumption) ?_
            (try simp only [Act.put, aT, aZ, aS])
            refine wpAnyH_take (i := 9) (oi := ⟨some 38, .fieldAddr 30 (.tmp 2) 3, 0, "ref.go:98", #[⟨1, .guard⟩], some (1, true)⟩) (v := undef) rfl (by kernel_rfl) (by kernel_rfl) (by kernel_rfl) (fun _ _ _ h => by cases h.1) (.inr ⟨by rfl, rfl⟩) (by assumption) ?_
            (try simp only [Act.put, aT, aZ, aS])
            refine wpAnyH_take (i := 10) (oi := ⟨some 39, .load 3 (.tmp 38), 3, "ref.go:98", #[⟨9, .data⟩, ⟨1, .guard⟩], some (1, true)⟩) (v := undef) rfl (by kernel_rfl) (by kernel_rfl) (by kernel_rfl) (fun _ _ _ h => by cases h.1) (.inr ⟨by rfl, rfl⟩) (by assumption) ?_
            (try simp only [Act.put, aT, aZ, aS])
            refine wpAnyH_take (i := 11) (oi := ⟨some 40, .unOp .neg 3 (.tmp 39), 3, "ref.go:98", #[⟨10, .data⟩, ⟨1, .guard⟩], some (1, true)⟩) (v := undef) rfl (by kernel_rfl) (by kernel_rfl) (by kernel_rfl) (fun _ _ _ h => by cases h.1) (.inr ⟨by rfl, rfl⟩) (by assumption) ?_
            (try simp only [Act.put, aT, aZ, aS])
            refine wpAnyH_take (i := 12) (oi := ⟨some 41, .binOp .geq 3 (.tmp 37) (.tmp 40) 3, 4, "ref.go:98", #[⟨8, .data⟩, ⟨11, .data⟩, ⟨1, .guard⟩], some (1, true)⟩) (v := undef) rfl (by kernel_rfl) (by kernel_rfl) (by kernel_rfl) (fun _ _ _ h => by cases h.1) (.inr ⟨by rfl, rfl⟩) (by assumption) ?_
            (try simp only [Act.put, aT, aZ, aS])
            refine wpAnyH_take (i := 13) (oi := ⟨some 42, .pick (.tmp 30) (.tmp 41) (.const (.bool false)), 4, "ref.go:98", #[⟨1, .data⟩, ⟨12, .data⟩], none⟩) (v := ?_) rfl (by kernel_rfl) (by kernel_rfl) (by kernel_rfl) (fun _ _ _ h => by cases h.1) (.inl ⟨by rfl, ?_⟩) (by assumption) ?_
            rotate_left
            · (intro w' hSw; (try dsimp only at hSw); (have j16 := (hs.job.below hSw hs.job.lt).at_ 16 (.int .i64 J.wi) rfl; have s0 := (hSw.cell (p := ⟨q, off + k * 2, none⟩) hbl).trans e0; have s1 := (hSw.cell (p := ⟨q, off + k * 2 + 1, none⟩) hbl).trans e1); go_simp <;> with_reducible rfl)
            (try simp only [Act.put, aT, aZ, aS])
            refine wpAnyH_take (i := 14) (oi := ⟨some 43, .move (.tmp 42), 4, "ref.go:98", #[⟨13, .data⟩, ⟨1, .chain⟩], none⟩) (v := ?_) rfl (by kernel_rfl) (by kernel_rfl) (by kernel_rfl) (fun _ _ _ h => by cases h.1) (.inl ⟨by rfl, ?_⟩) (by assumption) ?_
            rotate_left
            · (intro w' hSw; (try dsimp only at hSw); (have j16 := (hs.job.below hSw hs.job.lt).at_ 16 (.int .i64 J.wi) rfl; have s0 := (hSw.cell (p := ⟨q, off + k * 2, none⟩) hbl).trans e0; have s1 := (hSw.cell (p := ⟨q, off + k * 2 + 1, none⟩) hbl).trans e1); go_simp <;> with_reducible rfl)
            (try simp only [Act.put, aT, aZ, aS])
            refine wpAnyH_take (i := 15) (oi := ⟨some 44, .move (.tmp 6), 3, "ref.go:98", #[⟨14, .guard⟩], some (14, true)⟩) (v := undef) rfl (by kernel_rfl) (by kernel_rfl) (by kernel_rfl) (fun _ _ _ h => by cases h.1) (.inr ⟨by rfl, rfl⟩) (by assumption) ?_
            (try simp only [Act.put, aT, aZ, aS])
            refine wpAnyH_take (i := 16) (oi := ⟨some 45, .move (.tmp 5), 28, "ref.go:98", #[⟨14, .guard⟩], some (14, true)⟩) (v := undef) rfl (by kernel_rfl) (by kernel_rfl) (by kernel_rfl) (fun _ _ _ h => by cases h.1) (.inr ⟨by rfl, rfl⟩) (by assumption) ?_
            (try simp only [Act.put, aT, aZ, aS])
            refine wpAnyH_take (i := 17) (oi := ⟨some 46, .move (.tmp 8), 3, "ref.go:98", #[⟨14, .guard⟩], some (14, true)⟩) (v := undef) rfl (by kernel_rfl) (by kernel_rfl) (by kernel_rfl) (fun _ _ _ h => by cases h.1) (.inr ⟨by rfl, rfl⟩) (by assumption) ?_
            (try simp only [Act.put, aT, aZ, aS])
            refine wpAnyH_take (i := 18) (oi := ⟨some 47, .indexAddr 28 (.tmp 45) (.tmp 46), 0, "ref.go:98", #[⟨16, .data⟩, ⟨17, .data⟩, ⟨14, .guard⟩], some (14, true)⟩) (v := undef) rfl (by kernel_rfl) (by kernel_rfl) (by kernel_rfl) (fun _ _ _ h => by cases h.1) (.inr ⟨by rfl, rfl⟩) (by assumption) ?_
            (try simp only [Act.put, aT, aZ, aS])
            refine wpAnyH_take (i := 19) (oi := ⟨some 48, .fieldAddr 23 (.tmp 47) 0, 0, "ref.go:98", #[⟨18, .data⟩, ⟨14, .guard⟩], some (14, true)⟩) (v := undef) rfl (by kernel_rfl) (by kernel_rfl) (by kernel_rfl) (fun _ _ _ h => by cases h.1) (.inr ⟨by rfl, rfl⟩) (by assumption) ?_
            (try simp only [Act.put, aT, aZ, aS])
            refine wpAnyH_take (i := 20) (oi := ⟨some 49, .load 3 (.tmp 48), 3, "ref.go:98", #[⟨19, .data⟩, ⟨14, .guard⟩], some (14, true)⟩) (v := undef) rfl (by kernel_rfl) (by kernel_rfl) (by kernel_rfl) (fun _ _ _ h => by cases h.1) (.inr ⟨by rfl, rfl⟩) (by assumption) ?_
            (try simp only [Act.put, aT, aZ, aS])
            refine wpAnyH_take (i := 21) (oi := ⟨some 50, .binOp .add 3 (.tmp 44) (.tmp 49) 3, 3, "ref.go:98", #[⟨15, .data⟩, ⟨20, .data⟩, ⟨14, .guard⟩], some (14, true)⟩) (v := undef) rfl (by kernel_rfl) (by kernel_rfl) (by kernel_rfl) (fun _ _ _ h => by cases h.1) (.inr ⟨by rfl, rfl⟩) (by assumption) ?_
            (try simp only [Act.put, aT, aZ, aS])
            refine wpAnyH_take (i := 22) (oi := ⟨some 51, .fieldAddr 30 (.tmp 2) 3, 0, "ref.go:98", #[⟨14, .guard⟩], some (14, true)⟩) (v := undef) rfl (by kernel_rfl) (by kernel_rfl) (by kernel_rfl) (fun _ _ _ h => by cases h.1) (.inr ⟨by rfl, rfl⟩) (by assumption) ?_
            (try simp only [Act.put, aT, aZ, aS])
            refine wpAnyH_take (i := 23) (oi := ⟨some 52, .load 3 (.tmp 51), 3, "ref.go:98", #[⟨22, .data⟩, ⟨14, .guard⟩], some (14, true)⟩) (v := undef) rfl (by kernel_rfl) (by kernel_rfl) (by kernel_rfl) (fun _ _ _ h => by cases h.1) (.inr ⟨by rfl, rfl⟩) (by assumption) ?_
            (try simp only [Act.put, aT, aZ, aS])
            refine wpAnyH_take (i := 24) (oi := ⟨some 53, .binOp .leq 3 (.tmp 50) (.tmp 52) 3, 4, "ref.go:98", #[⟨21, .data⟩, ⟨23, .data⟩, ⟨14, .guard⟩], some (14, true)⟩) (v := undef) rfl (by kernel_rfl) (by kernel_rfl) (by kernel_rfl) (fun _ _ _ h => by cases h.1) (.inr ⟨by rfl, rfl⟩) (by assumption) ?_
            (try simp only [Act.put, aT, aZ, aS])
            refine wpAnyH_take (i := 25) (oi := ⟨some 54, .pick (.tmp 43) (.tmp 53) (.const (.bool false)), 4, "ref.go:98", #[⟨14, .data⟩, ⟨24, .data⟩], none⟩) (v := ?_) rfl (by kernel_rfl) (by kernel_rfl) (by kernel_rfl) (fun _ _ _ h => by cases h.1) (.inl ⟨by rfl, ?_⟩) (by assumption) ?_
            rotate_left
            · (intro w' hSw; (try dsimp only at hSw); (have j16 := (hs.job.below hSw hs.job.lt).at_ 16 (.int .i64 J.wi) rfl; have s0 := (hSw.cell (p := ⟨q, off + k * 2, none⟩) hbl).trans e0; have s1 := (hSw.cell (p := ⟨q, off + k * 2 + 1, none⟩) hbl).trans e1); go_simp <;> with_reducible rfl)
            (try simp only [Act.put, aT, aZ, aS])
            refine wpAnyH_ready (rs := [26]) (by kernel_rfl) (by simp) ?_
            refine AllReadyH.cons (o := ⟨some 7, .assign (.tmp 54), 4, "ref.go:98", #[⟨25, .data⟩, ⟨14, .chain⟩, ⟨0, .phase⟩, ⟨1, .phase⟩, ⟨2, .phase⟩, ⟨3, .phase⟩, ⟨4, .phase⟩, ⟨5, .phase⟩, ⟨6, .phase⟩, ⟨7, .phase⟩, ⟨8, .phase⟩, ⟨9, .phase⟩, ⟨10, .phase⟩, ⟨11, .phase⟩, ⟨12, .phase⟩, ⟨13, .phase⟩, ⟨14, .phase⟩, ⟨15, .phase⟩, ⟨16, .phase⟩, ⟨17, .phase⟩, ⟨18, .phase⟩, ⟨19, .phase⟩, ⟨20, .phase⟩, ⟨21, .phase⟩, ⟨22, .phase⟩, ⟨23, .phase⟩, ⟨24, .phase⟩, ⟨25, .phase⟩], none⟩) rfl (fun K hK => ?_) ?_
            · go_simp
              refine hK.out _ _ hB (fun hS3 => ?_)
              clear hK K
              (try simp only [Act.put, aT, aZ, aS])
              refine wpAnyH_done (by kernel_rfl) ?_ _
              exact ⟨rfl, _, _, _, _, _, _, _, _, _, _, _, _, _, _, _, _, _, _, _, _, _, _, _, _, _, _, rfl, hB⟩
            exact AllReadyH.nil
          · by_cases c1 : -J.wi ≤ z + s.2
            · have hd1 : decide (-J.wi ≤ z + s.2) = true := decide_eq_true c1
              obtain ⟨c2, hd2⟩ : ∃ v : Bool, decide (z + s.1 ≤ J.wi) = v := ⟨_, rfl⟩
              have HOK : Hid (c2 = okL J.wi z ((conds J.sh).take (k + 1))) := by
                show _ = _
                rw [HOK0.out, okB, hd1, hd2]
                rfl
              go_wp2_with fail
              refine region_via (R := fun a_ e a' w' => e = .normal ∧ ∃ (v29 v30 v31 v32 v33 v34 v35 v36 v37 v38 v39 v40 v41 v42 v43 v44 v45 v46 v47 v48 v49 v50 v51 v52 v53 v54 : Value), a' = (((((((((((((((((((((((((((a_.put (some 29) v29).put (some 30) v30).put (some 31) v31).put (some 32) v32).put (some 33) v33).put (some 34) v34).put (some 35) v35).put (some 36) v36).put (some 37) v37).put (some 38) v38).put (some 39) v39).put (some 40) v40).put (some 41) v41).put (some 42) v42).put (some 43) v43).put (some 44) v44).put (some 45) v45).put (some 46) v46).put (some 47) v47).put (some 48) v48).put (some 49) v49).put (some 50) v50).put (some 51) v51).put (some 52) v52).put (some 53) v53).put (some 54) v54).put (some 7) (.bool c2)) ∧ Below w1.heap.size w1 w') ?_ ?_
              rotate_left
              · rintro e a' w' ⟨rfl, v29, v30, v31, v32, v33, v34, v35, v36, v37, v38, v39, v40, v41, v42, v43, v44, v45, v46, v47, v48, v49, v50, v51, v52, v53, v54, rfl, hB'⟩
                simp only [Act.put, aT, aZ, aS]
                have HB' := hidMk hB'
                clear hB hB' e0 e1
                go_wp2_with fail
                go_roundw
                case rel => exact ⟨k + 1, c2, by omega, by go_num, rfl, HOK.out, HB'.out⟩
                case measure => simp [intOf]; omega
              refine wp_region_held_drew (S := fun w' => Below w1.heap.size w1 w') (by kernel_rfl) hB.drew (fun hS0 => ?_)
              replace hB := hB.drew
              generalize hWd : wr.drew = wd at hS0 hB ⊢
              clear hWd
              refine wpAnyH_take (i := 0) (oi := ⟨some 29, .move (.tmp 7), 4, "ref.go:98", #[], none⟩) (v := ?_) rfl (by kernel_rfl) (by kernel_rfl) (by kernel_rfl) (fun _ _ _ h => by cases h.1) (.inl ⟨by rfl, ?_⟩) (by assumption) ?_
              rotate_left
              · (intro w' hSw; (try dsimp only at hSw); (have j16 := (hs.job.below hSw hs.job.lt).at_ 16 (.int .i64 J.wi) rfl; have s0 := (hSw.cell (p := ⟨q, off + k * 2, none⟩) hbl).trans e0; have s1 := (hSw.cell (p := ⟨q, off + k * 2 + 1, none⟩) hbl).trans e1); go_simp <;> with_reducible rfl)
              (try simp only [Act.put, aT, aZ, aS])
              refine wpAnyH_take (i := 1) (oi := ⟨some 30, .move (.tmp 29), 4, "ref.go:98", #[⟨0, .data⟩], none⟩) (v := ?_) rfl (by kernel_rfl) (by kernel_rfl) (by kernel_rfl) (fun _ _ _ h => by cases h.1) (.inl ⟨by rfl, ?_⟩) (by assumption) ?_
              rotate_left
              · (intro w' hSw; (try dsimp only at hSw); (have j16 := (hs.job.below hSw hs.job.lt).at_ 16 (.int .i64 J.wi) rfl; have s0 := (hSw.cell (p := ⟨q, off + k * 2, none⟩) hbl).trans e0; have s1 := (hSw.cell (p := ⟨q, off + k * 2 + 1, none⟩) hbl).trans e1); go_simp <;> with_reducible rfl)
              (try simp only [Act.put, aT, aZ, aS])
              refine wpAnyH_take (i := 2) (oi := ⟨some 31, .move (.tmp 6), 3, "ref.go:98", #[⟨1, .guard⟩], some (1, true)⟩) (v := ?_) rfl (by kernel_rfl) (by kernel_rfl) (by kernel_rfl) (fun _ _ _ h => by cases h.1) (.inl ⟨by rfl, ?_⟩) (by assumption) ?_
              rotate_left
              · (intro w' hSw; (try dsimp only at hSw); (have j16 := (hs.job.below hSw hs.job.lt).at_ 16 (.int .i64 J.wi) rfl; have s0 := (hSw.cell (p := ⟨q, off + k * 2, none⟩) hbl).trans e0; have s1 := (hSw.cell (p := ⟨q, off + k * 2 + 1, none⟩) hbl).trans e1); go_simp <;> with_reducible rfl)
              (try simp only [Act.put, aT, aZ, aS])
              refine wpAnyH_take (i := 3) (oi := ⟨some 32, .move (.tmp 5), 28, "ref.go:98", #[⟨1, .guard⟩], some (1, true)⟩) (v := ?_) rfl (by kernel_rfl) (by kernel_rfl) (by kernel_rfl) (fun _ _ _ h => by cases h.1) (.inl ⟨by rfl, ?_⟩) (by assumption) ?_
              rotate_left
              · (intro w' hSw; (try dsimp only at hSw); (have j16 := (hs.job.below hSw hs.job.lt).at_ 16 (.int .i64 J.wi) rfl; have s0 := (hSw.cell (p := ⟨q, off + k * 2, none⟩) hbl).trans e0; have s1 := (hSw.cell (p := ⟨q, off + k * 2 + 1, none⟩) hbl).trans e1); go_simp <;> with_reducible rfl)
              (try simp only [Act.put, aT, aZ, aS])
              refine wpAnyH_take (i := 4) (oi := ⟨some 33, .move (.tmp 8), 3, "ref.go:98", #[⟨1, .guard⟩], some (1, true)⟩) (v := ?_) rfl (by kernel_rfl) (by kernel_rfl) (by kernel_rfl) (fun _ _ _ h => by cases h.1) (.inl ⟨by rfl, ?_⟩) (by assumption) ?_
              rotate_left
              · (intro w' hSw; (try dsimp only at hSw); (have j16 := (hs.job.below hSw hs.job.lt).at_ 16 (.int .i64 J.wi) rfl; have s0 := (hSw.cell (p := ⟨q, off + k * 2, none⟩) hbl).trans e0; have s1 := (hSw.cell (p := ⟨q, off + k * 2 + 1, none⟩) hbl).trans e1); go_simp <;> with_reducible rfl)
              (try simp only [Act.put, aT, aZ, aS])
              refine wpAnyH_take (i := 5) (oi := ⟨some 34, .indexAddr 28 (.tmp 32) (.tmp 33), 0, "ref.go:98", #[⟨3, .data⟩, ⟨4, .data⟩, ⟨1, .guard⟩], some (1, true)⟩) (v := ?_) rfl (by kernel_rfl) (by kernel_rfl) (by kernel_rfl) (fun _ _ _ h => by cases h.1) (.inl ⟨by rfl, ?_⟩) (by assumption) ?_
              rotate_left
              · (intro w' hSw; (try dsimp only at hSw); (have j16 := (hs.job.below hSw hs.job.lt).at_ 16 (.int .i64 J.wi) rfl; have s0 := (hSw.cell (p := ⟨q, off + k * 2, none⟩) hbl).trans e0; have s1 := (hSw.cell (p := ⟨q, off + k * 2 + 1, none⟩) hbl).trans e1); go_simp <;> with_reducible rfl)
              (try simp only [Act.put, aT, aZ, aS])
              refine wpAnyH_take (i := 6) (oi := ⟨some 35, .fieldAddr 23 (.tmp 34) 1, 0, "ref.go:98", #[⟨5, .data⟩, ⟨1, .guard⟩], some (1, true)⟩) (v := ?_) rfl (by kernel_rfl) (by kernel_rfl) (by kernel_rfl) (fun _ _ _ h => by cases h.1) (.inl ⟨by rfl, ?_⟩) (by assumption) ?_
              rotate_left
              · (intro w' hSw; (try dsimp only at hSw); (have j16 := (hs.job.below hSw hs.job.lt).at_ 16 (.int .i64 J.wi) rfl; have s0 := (hSw.cell (p := ⟨q, off + k * 2, none⟩) hbl).trans e0; have s1 := (hSw.cell (p := ⟨q, off + k * 2 + 1, none⟩) hbl).trans e1); go_simp <;> with_reducible rfl)
              (try simp only [Act.put, aT, aZ, aS])
              refine wpAnyH_take (i := 7) (oi := ⟨some 36, .load 3 (.tmp 35), 3, "ref.go:98", #[⟨6, .data⟩, ⟨1, .guard⟩], some (1, true)⟩) (v := ?_) rfl (by kernel_rfl) (by kernel_rfl) (by kernel_rfl) (fun _ _ _ h => by cases h.1) (.inl ⟨by rfl, ?_⟩) (by assumption) ?_
              rotate_left
              · (intro w' hSw; (try dsimp only at hSw); (have j16 := (hs.job.below hSw hs.job.lt).at_ 16 (.int .i64 J.wi) rfl; have s0 := (hSw.cell (p := ⟨q, off + k * 2, none⟩) hbl).trans e0; have s1 := (hSw.cell (p := ⟨q, off + k * 2 + 1, none⟩) hbl).trans e1); go_simp <;> with_reducible rfl)
              (try simp only [Act.put, aT, aZ, aS])
              refine wpAnyH_take (i := 8) (oi := ⟨some 37, .binOp .add 3 (.tmp 31) (.tmp 36) 3, 3, "ref.go:98", #[⟨2, .data⟩, ⟨7, .data⟩, ⟨1, .guard⟩], some (1, true)⟩) (v := ?_) rfl (by kernel_rfl) (by kernel_rfl) (by kernel_rfl) (fun _ _ _ h => by cases h.1) (.inl ⟨by rfl, ?_⟩) (by assumption) ?_
              rotate_left
              · (intro w' hSw; (try dsimp only at hSw); (have j16 := (hs.job.below hSw hs.job.lt).at_ 16 (.int .i64 J.wi) rfl; have s0 := (hSw.cell (p := ⟨q, off + k * 2, none⟩) hbl).trans e0; have s1 := (hSw.cell (p := ⟨q, off + k * 2 + 1, none⟩) hbl).trans e1); go_simp <;> with_reducible rfl)
              (try simp only [Act.put, aT, aZ, aS])
              refine wpAnyH_take (i := 9) (oi := ⟨some 38, .fieldAddr 30 (.tmp 2) 3, 0, "ref.go:98", #[⟨1, .guard⟩], some (1, true)⟩) (v := ?_) rfl (by kernel_rfl) (by kernel_rfl) (by kernel_rfl) (fun _ _ _ h => by cases h.1) (.inl ⟨by rfl, ?_⟩) (by assumption) ?_
              rotate_left
              · (intro w' hSw; (try dsimp only at hSw); (have j16 := (hs.job.below hSw hs.job.lt).at_ 16 (.int .i64 J.wi) rfl; have s0 := (hSw.cell (p := ⟨q, off + k * 2, none⟩) hbl).trans e0; have s1 := (hSw.cell (p := ⟨q, off + k * 2 + 1, none⟩) hbl).trans e1); go_simp <;> with_reducible rfl)
              (try simp only [Act.put, aT, aZ, aS])
              refine wpAnyH_take (i := 10) (oi := ⟨some 39, .load 3 (.tmp 38), 3, "ref.go:98", #[⟨9, .data⟩, ⟨1, .guard⟩], some (1, true)⟩) (v := ?_) rfl (by kernel_rfl) (by kernel_rfl) (by kernel_rfl) (fun _ _ _ h => by cases h.1) (.inl ⟨by rfl, ?_⟩) (by assumption) ?_
              rotate_left
              · (intro w' hSw; (try dsimp only at hSw); (have j16 := (hs.job.below hSw hs.job.lt).at_ 16 (.int .i64 J.wi) rfl; have s0 := (hSw.cell (p := ⟨q, off + k * 2, none⟩) hbl).trans e0; have s1 := (hSw.cell (p := ⟨q, off + k * 2 + 1, none⟩) hbl).trans e1); go_simp <;> with_reducible rfl)
              (try simp only [Act.put, aT, aZ, aS])
              refine wpAnyH_take (i := 11) (oi := ⟨some 40, .unOp .neg 3 (.tmp 39), 3, "ref.go:98", #[⟨10, .data⟩, ⟨1, .guard⟩], some (1, true)⟩) (v := ?_) rfl (by kernel_rfl) (by kernel_rfl) (by kernel_rfl) (fun _ _ _ h => by cases h.1) (.inl ⟨by rfl, ?_⟩) (by assumption) ?_
              rotate_left
              · (intro w' hSw; (try dsimp only at hSw); (have j16 := (hs.job.below hSw hs.job.lt).at_ 16 (.int .i64 J.wi) rfl; have s0 := (hSw.cell (p := ⟨q, off + k * 2, none⟩) hbl).trans e0; have s1 := (hSw.cell (p := ⟨q, off + k * 2 + 1, none⟩) hbl).trans e1); go_simp <;> with_reducible rfl)
              (try simp only [Act.put, aT, aZ, aS])
              refine wpAnyH_take (i := 12) (oi := ⟨some 41, .binOp .geq 3 (.tmp 37) (.tmp 40) 3, 4, "ref.go:98", #[⟨8, .data⟩, ⟨11, .data⟩, ⟨1, .guard⟩], some (1, true)⟩) (v := ?_) rfl (by kernel_rfl) (by kernel_rfl) (by kernel_rfl) (fun _ _ _ h => by cases h.1) (.inl ⟨by rfl, ?_⟩) (by assumption) ?_
              rotate_left
              · (intro w' hSw; (try dsimp only at hSw); (have j16 := (hs.job.below hSw hs.job.lt).at_ 16 (.int .i64 J.wi) rfl; have s0 := (hSw.cell (p := ⟨q, off + k * 2, none⟩) hbl).trans e0; have s1 := (hSw.cell (p := ⟨q, off + k * 2 + 1, none⟩) hbl).trans e1); go_simp <;> with_reducible rfl)
              (try simp only [Act.put, aT, aZ, aS])
              refine wpAnyH_take (i := 13) (oi := ⟨some 42, .pick (.tmp 30) (.tmp 41) (.const (.bool false)), 4, "ref.go:98", #[⟨1, .data⟩, ⟨12, .data⟩], none⟩) (v := ?_) rfl (by kernel_rfl) (by kernel_rfl) (by kernel_rfl) (fun _ _ _ h => by cases h.1) (.inl ⟨by rfl, ?_⟩) (by assumption) ?_
              rotate_left
              · (intro w' hSw; (try dsimp only at hSw); (have j16 := (hs.job.below hSw hs.job.lt).at_ 16 (.int .i64 J.wi) rfl; have s0 := (hSw.cell (p := ⟨q, off + k * 2, none⟩) hbl).trans e0; have s1 := (hSw.cell (p := ⟨q, off + k * 2 + 1, none⟩) hbl).trans e1); go_simp <;> with_reducible rfl)
              (try simp only [Act.put, aT, aZ, aS])
              refine wpAnyH_take (i := 14) (oi := ⟨some 43, .move (.tmp 42), 4, "ref.go:98", #[⟨13, .data⟩, ⟨1, .chain⟩], none⟩) (v := ?_) rfl (by kernel_rfl) (by kernel_rfl) (by kernel_rfl) (fun _ _ _ h => by cases h.1) (.inl ⟨by rfl, ?_⟩) (by assumption) ?_
              rotate_left
              · (intro w' hSw; (try dsimp only at hSw); (have j16 := (hs.job.below hSw hs.job.lt).at_ 16 (.int .i64 J.wi) rfl; have s0 := (hSw.cell (p := ⟨q, off + k * 2, none⟩) hbl).trans e0; have s1 := (hSw.cell (p := ⟨q, off + k * 2 + 1, none⟩) hbl).trans e1); go_simp <;> with_reducible rfl)
              (try simp only [Act.put, aT, aZ, aS])
              refine wpAnyH_take (i := 15) (oi := ⟨some 44, .move (.tmp 6), 3, "ref.go:98", #[⟨14, .guard⟩], some (14, true)⟩) (v := ?_) rfl (by kernel_rfl) (by kernel_rfl) (by kernel_rfl) (fun _ _ _ h => by cases h.1) (.inl ⟨by rfl, ?_⟩) (by assumption) ?_
              rotate_left
              · (intro w' hSw; (try dsimp only at hSw); (have j16 := (hs.job.below hSw hs.job.lt).at_ 16 (.int .i64 J.wi) rfl; have s0 := (hSw.cell (p := ⟨q, off + k * 2, none⟩) hbl).trans e0; have s1 := (hSw.cell (p := ⟨q, off + k * 2 + 1, none⟩) hbl).trans e1); go_simp <;> with_reducible rfl)
              (try simp only [Act.put, aT, aZ, aS])
              refine wpAnyH_take (i := 16) (oi := ⟨some 45, .move (.tmp 5), 28, "ref.go:98", #[⟨14, .guard⟩], some (14, true)⟩) (v := ?_) rfl (by kernel_rfl) (by kernel_rfl) (by kernel_rfl) (fun _ _ _ h => by cases h.1) (.inl ⟨by rfl, ?_⟩) (by assumption) ?_
              rotate_left
              · (intro w' hSw; (try dsimp only at hSw); (have j16 := (hs.job.below hSw hs.job.lt).at_ 16 (.int .i64 J.wi) rfl; have s0 := (hSw.cell (p := ⟨q, off + k * 2, none⟩) hbl).trans e0; have s1 := (hSw.cell (p := ⟨q, off + k * 2 + 1, none⟩) hbl).trans e1); go_simp <;> with_reducible rfl)
              (try simp only [Act.put, aT, aZ, aS])
              refine wpAnyH_take (i := 17) (oi := ⟨some 46, .move (.tmp 8), 3, "ref.go:98", #[⟨14, .guard⟩], some (14, true)⟩) (v := ?_) rfl (by kernel_rfl) (by kernel_rfl) (by kernel_rfl) (fun _ _ _ h => by cases h.1) (.inl ⟨by rfl, ?_⟩) (by assumption) ?_
              rotate_left
              · (intro w' hSw; (try dsimp only at hSw); (have j16 := (hs.job.below hSw hs.job.lt).at_ 16 (.int .i64 J.wi) rfl; have s0 := (hSw.cell (p := ⟨q, off + k * 2, none⟩) hbl).trans e0; have s1 := (hSw.cell (p := ⟨q, off + k * 2 + 1, none⟩) hbl).trans e1); go_simp <;> with_reducible rfl)
              (try simp only [Act.put, aT, aZ, aS])
              refine wpAnyH_take (i := 18) (oi := ⟨some 47, .indexAddr 28 (.tmp 45) (.tmp 46), 0, "ref.go:98", #[⟨16, .data⟩, ⟨17, .data⟩, ⟨14, .guard⟩], some (14, true)⟩) (v := ?_) rfl (by kernel_rfl) (by kernel_rfl) (by kernel_rfl) (fun _ _ _ h => by cases h.1) (.inl ⟨by rfl, ?_⟩) (by assumption) ?_
              rotate_left
              · (intro w' hSw; (try dsimp only at hSw); (have j16 := (hs.job.below hSw hs.job.lt).at_ 16 (.int .i64 J.wi) rfl; have s0 := (hSw.cell (p := ⟨q, off + k * 2, none⟩) hbl).trans e0; have s1 := (hSw.cell (p := ⟨q, off + k * 2 + 1, none⟩) hbl).trans e1); go_simp <;> with_reducible rfl)
              (try simp only [Act.put, aT, aZ, aS])
              refine wpAnyH_take (i := 19) (oi := ⟨some 48, .fieldAddr 23 (.tmp 47) 0, 0, "ref.go:98", #[⟨18, .data⟩, ⟨14, .guard⟩], some (14, true)⟩) (v := ?_) rfl (by kernel_rfl) (by kernel_rfl) (by kernel_rfl) (fun _ _ _ h => by cases h.1) (.inl ⟨by rfl, ?_⟩) (by assumption) ?_
              rotate_left
              · (intro w' hSw; (try dsimp only at hSw); (have j16 := (hs.job.below hSw hs.job.lt).at_ 16 (.int .i64 J.wi) rfl; have s0 := (hSw.cell (p := ⟨q, off + k * 2, none⟩) hbl).trans e0; have s1 := (hSw.cell (p := ⟨q, off + k * 2 + 1, none⟩) hbl).trans e1); go_simp <;> with_reducible rfl)
              (try simp only [Act.put, aT, aZ, aS])
              refine wpAnyH_take (i := 20) (oi := ⟨some 49, .load 3 (.tmp 48), 3, "ref.go:98", #[⟨19, .data⟩, ⟨14, .guard⟩], some (14, true)⟩) (v := ?_) rfl (by kernel_rfl) (by kernel_rfl) (by kernel_rfl) (fun _ _ _ h => by cases h.1) (.inl ⟨by rfl, ?_⟩) (by assumption) ?_
              rotate_left
              · (intro w' hSw; (try dsimp only at hSw); (have j16 := (hs.job.below hSw hs.job.lt).at_ 16 (.int .i64 J.wi) rfl; have s0 := (hSw.cell (p := ⟨q, off + k * 2, none⟩) hbl).trans e0; have s1 := (hSw.cell (p := ⟨q, off + k * 2 + 1, none⟩) hbl).trans e1); go_simp <;> with_reducible rfl)
              (try simp only [Act.put, aT, aZ, aS])
              refine wpAnyH_take (i := 21) (oi := ⟨some 50, .binOp .add 3 (.tmp 44) (.tmp 49) 3, 3, "ref.go:98", #[⟨15, .data⟩, ⟨20, .data⟩, ⟨14, .guard⟩], some (14, true)⟩) (v := ?_) rfl (by kernel_rfl) (by kernel_rfl) (by kernel_rfl) (fun _ _ _ h => by cases h.1) (.inl ⟨by rfl, ?_⟩) (by assumption) ?_
              rotate_left
              · (intro w' hSw; (try dsimp only at hSw); (have j16 := (hs.job.below hSw hs.job.lt).at_ 16 (.int .i64 J.wi) rfl; have s0 := (hSw.cell (p := ⟨q, off + k * 2, none⟩) hbl).trans e0; have s1 := (hSw.cell (p := ⟨q, off + k * 2 + 1, none⟩) hbl).trans e1); go_simp <;> with_reducible rfl)
              (try simp only [Act.put, aT, aZ, aS])
              refine wpAnyH_take (i := 22) (oi := ⟨some 51, .fieldAddr 30 (.tmp 2) 3, 0, "ref.go:98", #[⟨14, .guard⟩], some (14, true)⟩) (v := ?_) rfl (by kernel_rfl) (by kernel_rfl) (by kernel_rfl) (fun _ _ _ h => by cases h.1) (.inl ⟨by rfl, ?_⟩) (by assumption) ?_
              rotate_left
              · (intro w' hSw; (try dsimp only at hSw); (have j16 := (hs.job.below hSw hs.job.lt).at_ 16 (.int .i64 J.wi) rfl; have s0 := (hSw.cell (p := ⟨q, off + k * 2, none⟩) hbl).trans e0; have s1 := (hSw.cell (p := ⟨q, off + k * 2 + 1, none⟩) hbl).trans e1); go_simp <;> with_reducible rfl)
              (try simp only [Act.put, aT, aZ, aS])
              refine wpAnyH_take (i := 23) (oi := ⟨some 52, .load 3 (.tmp 51), 3, "ref.go:98", #[⟨22, .data⟩, ⟨14, .guard⟩], some (14, true)⟩) (v := ?_) rfl (by kernel_rfl) (by kernel_rfl) (by kernel_rfl) (fun _ _ _ h => by cases h.1) (.inl ⟨by rfl, ?_⟩) (by assumption) ?_
              rotate_left
              · (intro w' hSw; (try dsimp only at hSw); (have j16 := (hs.job.below hSw hs.job.lt).at_ 16 (.int .i64 J.wi) rfl; have s0 := (hSw.cell (p := ⟨q, off + k * 2, none⟩) hbl).trans e0; have s1 := (hSw.cell (p := ⟨q, off + k * 2 + 1, none⟩) hbl).trans e1); go_simp <;> with_reducible rfl)
              (try simp only [Act.put, aT, aZ, aS])
              refine wpAnyH_take (i := 24) (oi := ⟨some 53, .binOp .leq 3 (.tmp 50) (.tmp 52) 3, 4, "ref.go:98", #[⟨21, .data⟩, ⟨23, .data⟩, ⟨14, .guard⟩], some (14, true)⟩) (v := ?_) rfl (by kernel_rfl) (by kernel_rfl) (by kernel_rfl) (fun _ _ _ h => by cases h.1) (.inl ⟨by rfl, ?_⟩) (by assumption) ?_
              rotate_left
              · (intro w' hSw; (try dsimp only at hSw); (have j16 := (hs.job.below hSw hs.job.lt).at_ 16 (.int .i64 J.wi) rfl; have s0 := (hSw.cell (p := ⟨q, off + k * 2, none⟩) hbl).trans e0; have s1 := (hSw.cell (p := ⟨q, off + k * 2 + 1, none⟩) hbl).trans e1); go_simp <;> with_reducible rfl)
              (try simp only [Act.put, aT, aZ, aS])
              refine wpAnyH_take (i := 25) (oi := ⟨some 54, .pick (.tmp 43) (.tmp 53) (.const (.bool false)), 4, "ref.go:98", #[⟨14, .data⟩, ⟨24, .data⟩], none⟩) (v := ?_) rfl (by kernel_rfl) (by kernel_rfl) (by kernel_rfl) (fun _ _ _ h => by cases h.1) (.inl ⟨by rfl, ?_⟩) (by assumption) ?_
              rotate_left
              · (intro w' hSw; (try dsimp only at hSw); (have j16 := (hs.job.below hSw hs.job.lt).at_ 16 (.int .i64 J.wi) rfl; have s0 := (hSw.cell (p := ⟨q, off + k * 2, none⟩) hbl).trans e0; have s1 := (hSw.cell (p := ⟨q, off + k * 2 + 1, none⟩) hbl).trans e1); go_simp <;> with_reducible rfl)
              (try simp only [Act.put, aT, aZ, aS])
              refine wpAnyH_ready (rs := [26]) (by kernel_rfl) (by simp) ?_
              refine AllReadyH.cons (o := ⟨some 7, .assign (.tmp 54), 4, "ref.go:98", #[⟨25, .data⟩, ⟨14, .chain⟩, ⟨0, .phase⟩, ⟨1, .phase⟩, ⟨2, .phase⟩, ⟨3, .phase⟩, ⟨4, .phase⟩, ⟨5, .phase⟩, ⟨6, .phase⟩, ⟨7, .phase⟩, ⟨8, .phase⟩, ⟨9, .phase⟩, ⟨10, .phase⟩, ⟨11, .phase⟩, ⟨12, .phase⟩, ⟨13, .phase⟩, ⟨14, .phase⟩, ⟨15, .phase⟩, ⟨16, .phase⟩, ⟨17, .phase⟩, ⟨18, .phase⟩, ⟨19, .phase⟩, ⟨20, .phase⟩, ⟨21, .phase⟩, ⟨22, .phase⟩, ⟨23, .phase⟩, ⟨24, .phase⟩, ⟨25, .phase⟩], none⟩) rfl (fun K hK => ?_) ?_
              · go_simp
                refine hK.out _ _ hB (fun hS3 => ?_)
                clear hK K
                (try simp only [Act.put, aT, aZ, aS])
                refine wpAnyH_done (by kernel_rfl) ?_ _
                exact ⟨rfl, _, _, _, _, _, _, _, _, _, _, _, _, _, _, _, _, _, _, _, _, _, _, _, _, _, _, rfl, hB⟩
              exact AllReadyH.nil
            · have hd1 : decide (-J.wi ≤ z + s.2) = false := decide_eq_false c1
              have HOK : Hid (false = okL J.wi z ((conds J.sh).take (k + 1))) := by
                show _ = _
                rw [HOK0.out, okB, hd1]
                rfl
              go_wp2_with fail
              refine region_via (R := fun a_ e a' w' => e = .normal ∧ ∃ (v29 v30 v31 v32 v33 v34 v35 v36 v37 v38 v39 v40 v41 v42 v43 v44 v45 v46 v47 v48 v49 v50 v51 v52 v53 v54 : Value), a' = (((((((((((((((((((((((((((a_.put (some 29) v29).put (some 30) v30).put (some 31) v31).put (some 32) v32).put (some 33) v33).put (some 34) v34).put (some 35) v35).put (some 36) v36).put (some 37) v37).put (some 38) v38).put (some 39) v39).put (some 40) v40).put (some 41) v41).put (some 42) v42).put (some 43) v43).put (some 44) v44).put (some 45) v45).put (some 46) v46).put (some 47) v47).put (some 48) v48).put (some 49) v49).put (some 50) v50).put (some 51) v51).put (some 52) v52).put (some 53) v53).put (some 54) v54).put (some 7) (.bool false)) ∧ Below w1.heap.size w1 w') ?_ ?_
              rotate_left
              · rintro e a' w' ⟨rfl, v29, v30, v31, v32, v33, v34, v35, v36, v37, v38, v39, v40, v41, v42, v43, v44, v45, v46, v47, v48, v49, v50, v51, v52, v53, v54, rfl, hB'⟩
                simp only [Act.put, aT, aZ, aS]
                have HB' := hidMk hB'
                clear hB hB' e0 e1
                go_wp2_with fail
                go_roundw
                case rel => exact ⟨k + 1, false, by omega, by go_num, rfl, HOK.out, HB'.out⟩
                case measure => simp [intOf]; omega
              refine wp_region_held_drew (S := fun w' => Below w1.heap.size w1 w') (by kernel_rfl) hB.drew (fun hS0 => ?_)
              replace hB := hB.drew
              generalize hWd : wr.drew = wd at hS0 hB ⊢
              clear hWd
              refine wpAnyH_take (i := 0) (oi := ⟨some 29, .move (.tmp 7), 4, "ref.go:98", #[], none⟩) (v := ?_) rfl (by kernel_rfl) (by kernel_rfl) (by kernel_rfl) (fun _ _ _ h => by cases h.1) (.inl ⟨by rfl, ?_⟩) (by assumption) ?_
              rotate_left
              · (intro w' hSw; (try dsimp only at hSw); (have j16 := (hs.job.below hSw hs.job.lt).at_ 16 (.int .i64 J.wi) rfl; have s0 := (hSw.cell (p := ⟨q, off + k * 2, none⟩) hbl).trans e0; have s1 := (hSw.cell (p := ⟨q, off + k * 2 + 1, none⟩) hbl).trans e1); go_simp <;> with_reducible rfl)
              (try simp only [Act.put, aT, aZ, aS])
              refine wpAnyH_take (i := 1) (oi := ⟨some 30, .move (.tmp 29), 4, "ref.go:98", #[⟨0, .data⟩], none⟩) (v := ?_) rfl (by kernel_rfl) (by kernel_rfl) (by kernel_rfl) (fun _ _ _ h => by cases h.1) (.inl ⟨by rfl, ?_⟩) (by assumption) ?_
              rotate_left
              · (intro w' hSw; (try dsimp only at hSw); (have j16 := (hs.job.below hSw hs.job.lt).at_ 16 (.int .i64 J.wi) rfl; have s0 := (hSw.cell (p := ⟨q, off + k * 2, none⟩) hbl).trans e0; have s1 := (hSw.cell (p := ⟨q, off + k * 2 + 1, none⟩) hbl).trans e1); go_simp <;> with_reducible rfl)
              (try simp only [Act.put, aT, aZ, aS])
              refine wpAnyH_take (i := 2) (oi := ⟨some 31, .move (.tmp 6), 3, "ref.go:98", #[⟨1, .guard⟩], some (1, true)⟩) (v := ?_) rfl (by kernel_rfl) (by kernel_rfl) (by kernel_rfl) (fun _ _ _ h => by cases h.1) (.inl ⟨by rfl, ?_⟩) (by assumption) ?_
              rotate_left
              · (intro w' hSw; (try dsimp only at hSw); (have j16 := (hs.job.below hSw hs.job.lt).at_ 16 (.int .i64 J.wi) rfl; have s0 := (hSw.cell (p := ⟨q, off + k * 2, none⟩) hbl).trans e0; have s1 := (hSw.cell (p := ⟨q, off + k * 2 + 1, none⟩) hbl).trans e1); go_simp <;> with_reducible rfl)
              (try simp only [Act.put, aT, aZ, aS])
              refine wpAnyH_take (i := 3) (oi := ⟨some 32, .move (.tmp 5), 28, "ref.go:98", #[⟨1, .guard⟩], some (1, true)⟩) (v := ?_) rfl (by kernel_rfl) (by kernel_rfl) (by kernel_rfl) (fun _ _ _ h => by cases h.1) (.inl ⟨by rfl, ?_⟩) (by assumption) ?_
              rotate_left
              · (intro w' hSw; (try dsimp only at hSw); (have j16 := (hs.job.below hSw hs.job.lt).at_ 16 (.int .i64 J.wi) rfl; have s0 := (hSw.cell (p := ⟨q, off + k * 2, none⟩) hbl).trans e0; have s1 := (hSw.cell (p := ⟨q, off + k * 2 + 1, none⟩) hbl).trans e1); go_simp <;> with_reducible rfl)
              (try simp only [Act.put, aT, aZ, aS])
              refine wpAnyH_take (i := 4) (oi := ⟨some 33, .move (.tmp 8), 3, "ref.go:98", #[⟨1, .guard⟩], some (1, true)⟩) (v := ?_) rfl (by kernel_rfl) (by kernel_rfl) (by kernel_rfl) (fun _ _ _ h => by cases h.1) (.inl ⟨by rfl, ?_⟩) (by assumption) ?_
              rotate_left
              · (intro w' hSw; (try dsimp only at hSw); (have j16 := (hs.job.below hSw hs.job.lt).at_ 16 (.int .i64 J.wi) rfl; have s0 := (hSw.cell (p := ⟨q, off + k * 2, none⟩) hbl).trans e0; have s1 := (hSw.cell (p := ⟨q, off + k * 2 + 1, none⟩) hbl).trans e1); go_simp <;> with_reducible rfl)
              (try simp only [Act.put, aT, aZ, aS])
              refine wpAnyH_take (i := 5) (oi := ⟨some 34, .indexAddr 28 (.tmp 32) (.tmp 33), 0, "ref.go:98", #[⟨3, .data⟩, ⟨4, .data⟩, ⟨1, .guard⟩], some (1, true)⟩) (v := ?_) rfl (by kernel_rfl) (by kernel_rfl) (by kernel_rfl) (fun _ _ _ h => by cases h.1) (.inl ⟨by rfl, ?_⟩) (by assumption) ?_
              rotate_left
              · (intro w' hSw; (try dsimp only at hSw); (have j16 := (hs.job.below hSw hs.job.lt).at_ 16 (.int .i64 J.wi) rfl; have s0 := (hSw.cell (p := ⟨q, off + k * 2, none⟩) hbl).trans e0; have s1 := (hSw.cell (p := ⟨q, off + k * 2 + 1, none⟩) hbl).trans e1); go_simp <;> with_reducible rfl)
              (try simp only [Act.put, aT, aZ, aS])
              refine wpAnyH_take (i := 6) (oi := ⟨some 35, .fieldAddr 23 (.tmp 34) 1, 0, "ref.go:98", #[⟨5, .data⟩, ⟨1, .guard⟩], some (1, true)⟩) (v := ?_) rfl (by kernel_rfl) (by kernel_rfl) (by kernel_rfl) (fun _ _ _ h => by cases h.1) (.inl ⟨by rfl, ?_⟩) (by assumption) ?_
              rotate_left
              · (intro w' hSw; (try dsimp only at hSw); (have j16 := (hs.job.below hSw hs.job.lt).at_ 16 (.int .i64 J.wi) rfl; have s0 := (hSw.cell (p := ⟨q, off + k * 2, none⟩) hbl).trans e0; have s1 := (hSw.cell (p := ⟨q, off + k * 2 + 1, none⟩) hbl).trans e1); go_simp <;> with_reducible rfl)
              (try simp only [Act.put, aT, aZ, aS])
              refine wpAnyH_take (i := 7) (oi := ⟨some 36, .load 3 (.tmp 35), 3, "ref.go:98", #[⟨6, .data⟩, ⟨1, .guard⟩], some (1, true)⟩) (v := ?_) rfl (by kernel_rfl) (by kernel_rfl) (by kernel_rfl) (fun _ _ _ h => by cases h.1) (.inl ⟨by rfl, ?_⟩) (by assumption) ?_
              rotate_left
              · (intro w' hSw; (try dsimp only at hSw); (have j16 := (hs.job.below hSw hs.job.lt).at_ 16 (.int .i64 J.wi) rfl; have s0 := (hSw.cell (p := ⟨q, off + k * 2, none⟩) hbl).trans e0; have s1 := (hSw.cell (p := ⟨q, off + k * 2 + 1, none⟩) hbl).trans e1); go_simp <;> with_reducible rfl)
              (try simp only [Act.put, aT, aZ, aS])
              refine wpAnyH_take (i := 8) (oi := ⟨some 37, .binOp .add 3 (.tmp 31) (.tmp 36) 3, 3, "ref.go:98", #[⟨2, .data⟩, ⟨7, .data⟩, ⟨1, .guard⟩], some (1, true)⟩) (v := ?_) rfl (by kernel_rfl) (by kernel_rfl) (by kernel_rfl) (fun _ _ _ h => by cases h.1) (.inl ⟨by rfl, ?_⟩) (by assumption) ?_
              rotate_left
              · (intro w' hSw; (try dsimp only at hSw); (have j16 := (hs.job.below hSw hs.job.lt).at_ 16 (.int .i64 J.wi) rfl; have s0 := (hSw.cell (p := ⟨q, off + k * 2, none⟩) hbl).trans e0; have s1 := (hSw.cell (p := ⟨q, off + k * 2 + 1, none⟩) hbl).trans e1); go_simp <;> with_reducible rfl)
              (try simp only [Act.put, aT, aZ, aS])
              refine wpAnyH_take (i := 9) (oi := ⟨some 38, .fieldAddr 30 (.tmp 2) 3, 0, "ref.go:98", #[⟨1, .guard⟩], some (1, true)⟩) (v := ?_) rfl (by kernel_rfl) (by kernel_rfl) (by kernel_rfl) (fun _ _ _ h => by cases h.1) (.inl ⟨by rfl, ?_⟩) (by assumption) ?_
              rotate_left
              · (intro w' hSw; (try dsimp only at hSw); (have j16 := (hs.job.below hSw hs.job.lt).at_ 16 (.int .i64 J.wi) rfl; have s0 := (hSw.cell (p := ⟨q, off + k * 2, none⟩) hbl).trans e0; have s1 := (hSw.cell (p := ⟨q, off + k * 2 + 1, none⟩) hbl).trans e1); go_simp <;> with_reducible rfl)
              (try simp only [Act.put, aT, aZ, aS])
              refine wpAnyH_take (i := 10) (oi := ⟨some 39, .load 3 (.tmp 38), 3, "ref.go:98", #[⟨9, .data⟩, ⟨1, .guard⟩], some (1, true)⟩) (v := ?_) rfl (by kernel_rfl) (by kernel_rfl) (by kernel_rfl) (fun _ _ _ h => by cases h.1) (.inl ⟨by rfl, ?_⟩) (by assumption) ?_
              rotate_left
              · (intro w' hSw; (try dsimp only at hSw); (have j16 := (hs.job.below hSw hs.job.lt).at_ 16 (.int .i64 J.wi) rfl; have s0 := (hSw.cell (p := ⟨q, off + k * 2, none⟩) hbl).trans e0; have s1 := (hSw.cell (p := ⟨q, off + k * 2 + 1, none⟩) hbl).trans e1); go_simp <;> with_reducible rfl)
              (try simp only [Act.put, aT, aZ, aS])
              refine wpAnyH_take (i := 11) (oi := ⟨some 40, .unOp .neg 3 (.tmp 39), 3, "ref.go:98", #[⟨10, .data⟩, ⟨1, .guard⟩], some (1, true)⟩) (v := ?_) rfl (by kernel_rfl) (by kernel_rfl) (by kernel_rfl) (fun _ _ _ h => by cases h.1) (.inl ⟨by rfl, ?_⟩) (by assumption) ?_
              rotate_left
              · (intro w' hSw; (try dsimp only at hSw); (have j16 := (hs.job.below hSw hs.job.lt).at_ 16 (.int .i64 J.wi) rfl; have s0 := (hSw.cell (p := ⟨q, off + k * 2, none⟩) hbl).trans e0; have s1 := (hSw.cell (p := ⟨q, off + k * 2 + 1, none⟩) hbl).trans e1); go_simp <;> with_reducible rfl)
              (try simp only [Act.put, aT, aZ, aS])
              refine wpAnyH_take (i := 12) (oi := ⟨some 41, .binOp .geq 3 (.tmp 37) (.tmp 40) 3, 4, "ref.go:98", #[⟨8, .data⟩, ⟨11, .data⟩, ⟨1, .guard⟩], some (1, true)⟩) (v := ?_) rfl (by kernel_rfl) (by kernel_rfl) (by kernel_rfl) (fun _ _ _ h => by cases h.1) (.inl ⟨by rfl, ?_⟩) (by assumption) ?_
              rotate_left
              · (intro w' hSw; (try dsimp only at hSw); (have j16 := (hs.job.below hSw hs.job.lt).at_ 16 (.int .i64 J.wi) rfl; have s0 := (hSw.cell (p := ⟨q, off + k * 2, none⟩) hbl).trans e0; have s1 := (hSw.cell (p := ⟨q, off + k * 2 + 1, none⟩) hbl).trans e1); go_simp <;> with_reducible rfl)
              (try simp only [Act.put, aT, aZ, aS])
              refine wpAnyH_take (i := 13) (oi := ⟨some 42, .pick (.tmp 30) (.tmp 41) (.const (.bool false)), 4, "ref.go:98", #[⟨1, .data⟩, ⟨12, .data⟩], none⟩) (v := ?_) rfl (by kernel_rfl) (by kernel_rfl) (by kernel_rfl) (fun _ _ _ h => by cases h.1) (.inl ⟨by rfl, ?_⟩) (by assumption) ?_
              rotate_left
              · (intro w' hSw; (try dsimp only at hSw); (have j16 := (hs.job.below hSw hs.job.lt).at_ 16 (.int .i64 J.wi) rfl; have s0 := (hSw.cell (p := ⟨q, off + k * 2, none⟩) hbl).trans e0; have s1 := (hSw.cell (p := ⟨q, off + k * 2 + 1, none⟩) hbl).trans e1); go_simp <;> with_reducible rfl)
              (try simp only [Act.put, aT, aZ, aS])
              refine wpAnyH_take (i := 14) (oi := ⟨some 43, .move (.tmp 42), 4, "ref.go:98", #[⟨13, .data⟩, ⟨1, .chain⟩], none⟩) (v := ?_) rfl (by kernel_rfl) (by kernel_rfl) (by kernel_rfl) (fun _ _ _ h => by cases h.1) (.inl ⟨by rfl, ?_⟩) (by assumption) ?_
              rotate_left
              · (intro w' hSw; (try dsimp only at hSw); (have j16 := (hs.job.below hSw hs.job.lt).at_ 16 (.int .i64 J.wi) rfl; have s0 := (hSw.cell (p := ⟨q, off + k * 2, none⟩) hbl).trans e0; have s1 := (hSw.cell (p := ⟨q, off + k * 2 + 1, none⟩) hbl).trans e1); go_simp <;> with_reducible rfl)
              (try simp only [Act.put, aT, aZ, aS])
              refine wpAnyH_take (i := 15) (oi := ⟨some 44, .move (.tmp 6), 3, "ref.go:98", #[⟨14, .guard⟩], some (14, true)⟩) (v := undef) rfl (by kernel_rfl) (by kernel_rfl) (by kernel_rfl) (fun _ _ _ h => by cases h.1) (.inr ⟨by rfl, rfl⟩) (by assumption) ?_
              (try simp only [Act.put, aT, aZ, aS])
              refine wpAnyH_take (i := 16) (oi := ⟨some 45, .move (.tmp 5), 28, "ref.go:98", #[⟨14, .guard⟩], some (14, true)⟩) (v := undef) rfl (by kernel_rfl) (by kernel_rfl) (by kernel_rfl) (fun _ _ _ h => by cases h.1) (.inr ⟨by rfl, rfl⟩) (by assumption) ?_
              (try simp only [Act.put, aT, aZ, aS])
              refine wpAnyH_take (i := 17) (oi := ⟨some 46, .move (.tmp 8), 3, "ref.go:98", #[⟨14, .guard⟩], some (14, true)⟩) (v := undef) rfl (by kernel_rfl) (by kernel_rfl) (by kernel_rfl) (fun _ _ _ h => by cases h.1) (.inr ⟨by rfl, rfl⟩) (by assumption) ?_
              (try simp only [Act.put, aT, aZ, aS])
              refine wpAnyH_take (i := 18) (oi := ⟨some 47, .indexAddr 28 (.tmp 45) (.tmp 46), 0, "ref.go:98", #[⟨16, .data⟩, ⟨17, .data⟩, ⟨14, .guard⟩], some (14, true)⟩) (v := undef) rfl (by kernel_rfl) (by kernel_rfl) (by kernel_rfl) (fun _ _ _ h => by cases h.1) (.inr ⟨by rfl, rfl⟩) (by assumption) ?_
              (try simp only [Act.put, aT, aZ, aS])
              refine wpAnyH_take (i := 19) (oi := ⟨some 48, .fieldAddr 23 (.tmp 47) 0, 0, "ref.go:98", #[⟨18, .data⟩, ⟨14, .guard⟩], some (14, true)⟩) (v := undef) rfl (by kernel_rfl) (by kernel_rfl) (by kernel_rfl) (fun _ _ _ h => by cases h.1) (.inr ⟨by rfl, rfl⟩) (by assumption) ?_
              (try simp only [Act.put, aT, aZ, aS])
              refine wpAnyH_take (i := 20) (oi := ⟨some 49, .load 3 (.tmp 48), 3, "ref.go:98", #[⟨19, .data⟩, ⟨14, .guard⟩], some (14, true)⟩) (v := undef) rfl (by kernel_rfl) (by kernel_rfl) (by kernel_rfl) (fun _ _ _ h => by cases h.1) (.inr ⟨by rfl, rfl⟩) (by assumption) ?_
              (try simp only [Act.put, aT, aZ, aS])
              refine wpAnyH_take (i := 21) (oi := ⟨some 50, .binOp .add 3 (.tmp 44) (.tmp 49) 3, 3, "ref.go:98", #[⟨15, .data⟩, ⟨20, .data⟩, ⟨14, .guard⟩], some (14, true)⟩) (v := undef) rfl (by kernel_rfl) (by kernel_rfl) (by kernel_rfl) (fun _ _ _ h => by cases h.1) (.inr ⟨by rfl, rfl⟩) (by assumption) ?_
              (try simp only [Act.put, aT, aZ, aS])
              refine wpAnyH_take (i := 22) (oi := ⟨some 51, .fieldAddr 30 (.tmp 2) 3, 0, "ref.go:98", #[⟨14, .guard⟩], some (14, true)⟩) (v := undef) rfl (by kernel_rfl) (by kernel_rfl) (by kernel_rfl) (fun _ _ _ h => by cases h.1) (.inr ⟨by rfl, rfl⟩) (by assumption) ?_
              (try simp only [Act.put, aT, aZ, aS])
              refine wpAnyH_take (i := 23) (oi := ⟨some 52, .load 3 (.tmp 51), 3, "ref.go:98", #[⟨22, .data⟩, ⟨14, .guard⟩], some (14, true)⟩) (v := undef) rfl (by kernel_rfl) (by kernel_rfl) (by kernel_rfl) (fun _ _ _ h => by cases h.1) (.inr ⟨by rfl, rfl⟩) (by assumption) ?_
              (try simp only [Act.put, aT, aZ, aS])
              refine wpAnyH_take (i := 24) (oi := ⟨some 53, .binOp .leq 3 (.tmp 50) (.tmp 52) 3, 4, "ref.go:98", #[⟨21, .data⟩, ⟨23, .data⟩, ⟨14, .guard⟩], some (14, true)⟩) (v := undef) rfl (by kernel_rfl) (by kernel_rfl) (by kernel_rfl) (fun _ _ _ h => by cases h.1) (.inr ⟨by rfl, rfl⟩) (by assumption) ?_
              (try simp only [Act.put, aT, aZ, aS])
              refine wpAnyH_take (i := 25) (oi := ⟨some 54, .pick (.tmp 43) (.tmp 53) (.const (.bool false)), 4, "ref.go:98", #[⟨14, .data⟩, ⟨24, .data⟩], none⟩) (v := ?_) rfl (by kernel_rfl) (by kernel_rfl) (by kernel_rfl) (fun _ _ _ h => by cases h.1) (.inl ⟨by rfl, ?_⟩) (by assumption) ?_
              rotate_left
              · (intro w' hSw; (try dsimp only at hSw); (have j16 := (hs.job.below hSw hs.job.lt).at_ 16 (.int .i64 J.wi) rfl; have s0 := (hSw.cell (p := ⟨q, off + k * 2, none⟩) hbl).trans e0; have s1 := (hSw.cell (p := ⟨q, off + k * 2 + 1, none⟩) hbl).trans e1); go_simp <;> with_reducible rfl)
              (try simp only [Act.put, aT, aZ, aS])
              refine wpAnyH_ready (rs := [26]) (by kernel_rfl) (by simp) ?_
              refine AllReadyH.cons (o := ⟨some 7, .assign (.tmp 54), 4, "ref.go:98", #[⟨25, .data⟩, ⟨14, .chain⟩, ⟨0, .phase⟩, ⟨1, .phase⟩, ⟨2, .phase⟩, ⟨3, .phase⟩, ⟨4, .phase⟩, ⟨5, .phase⟩, ⟨6, .phase⟩, ⟨7, .phase⟩, ⟨8, .phase⟩, ⟨9, .phase⟩, ⟨10, .phase⟩, ⟨11, .phase⟩, ⟨12, .phase⟩, ⟨13, .phase⟩, ⟨14, .phase⟩, ⟨15, .phase⟩, ⟨16, .phase⟩, ⟨17, .phase⟩, ⟨18, .phase⟩, ⟨19, .phase⟩, ⟨20, .phase⟩, ⟨21, .phase⟩, ⟨22, .phase⟩, ⟨23, .phase⟩, ⟨24, .phase⟩, ⟨25, .phase⟩], none⟩) rfl (fun K hK => ?_) ?_
              · go_simp
                refine hK.out _ _ hB (fun hS3 => ?_)
                clear hK K
                (try simp only [Act.put, aT, aZ, aS])
                refine wpAnyH_done (by kernel_rfl) ?_ _
                exact ⟨rfl, _, _, _, _, _, _, _, _, _, _, _, _, _, _, _, _, _, _, _, _, _, _, _, _, _, _, rfl, hB⟩
              exact AllReadyH.nil
        · obtain rfl : k = m := by omega
          have HO2 : Hid (vb = okL J.wi z (conds J.sh)) := by
            show _ = _
            rw [HO.out, show (conds J.sh).take k = conds J.sh by rw [HM.out]; exact List.take_length]
          have HB := hidMk hB
          clear hB
          cases vb
          · go_wp2_with fail
            go_roundw
            case rel => exact ⟨z + 1, by go_num, ⟨by omega, by omega⟩, fun u h1 h2 => by
              by_cases hu : u < z
              · exact HN.out u h1 hu
              · have : u = z := by omega
                subst this
                rw [← HO2.out]
                decide, HB.out⟩
            case measure => simp [intOf]; omega
          · go_wp2_with fail
            go_ret
            exact ⟨ret_i (by rw [HV.out, pass_3 H0.out ⟨hz1, hlt⟩ HO2.out.symm]), hs.b0.trans (HB.out.mono hs.b0.size)⟩
    · have HB := hidMk hB
      have HP : Hid (passI J.wi J.sh x y = 2) := pass_2 H0.out fun u h1 h2 => HN.out u h1 (by omega)
      clear hB
      go_wp2_with fail
      rw [psrest4_eq]
      go_wp2_with fail
      go_ret
      exact ⟨ret_i (by rw [HV.out, HP.out]), hs.b0.trans (HB.out.mono hs.b0.size)⟩
set_option maxHeartbeats 4000000 in
set_option maxRecDepth 1000000 in
theorem pspart2 {w0 w1 : World} {g1 g2 : Nat} {J : Jb} {a : Option Addr} {n c : Nat} {x y V : Int} {u0 u1 u4 u5 u6 u7 u8 u9 u10 u11 u12 u13 u14 u15 u16 u17 u18 u19 u20 u21 u22 u23 u24 u25 u26 u27 u28 u29 u30 u31 u32 u33 u34 u35 u36 u37 u38 u39 u40 u41 u42 u43 u44 u45 u46 u47 u48 u49 u50 u51 u52 u53 u54 u55 : Value} (hs : PS w0 w1 g1 g2 J a n c x y) (hV : V = passI J.wi J.sh x y) (h0 : ¬ ((win J.wi J.sh).1 ≤ x ∧ y ≤ (win J.wi J.sh).2)) : Code.wp Try.prog psrest2 (QP V w0) ⟨#[u0, u1, (.pointer (some ⟨g1, 0, none⟩)), (.pointer (some ⟨g2, 0, none⟩)), u4, u5, u6, u7, u8, u9, u10, u11, u12, u13, u14, u15, u16, u17, u18, u19, u20, u21, u22, u23, u24, u25, u26, u27, u28, u29, u30, u31, u32, u33, u34, u35, u36, u37, u38, u39, u40, u41, u42, u43, u44, u45, u46, u47, u48, u49, u50, u51, u52, u53, u54, u55], []⟩ w1 := by
  rw [psrest2_eq]
  have HV := hidMk hV
  have H0 := hidMk h0
  have HS := hidMk hs
  have hj := hs.job
  have hm4 : n ≤ 4 := by have := hs.inn.len; have := hs.en; omega
  clear hs hV h0
  go_wp2_with (refine wpList_load_row rfl 30 _ rfl g1 rfl _ (jobC J (.slice a n c)) _ _ hj Try.underlying30 rfl szJob ?_)
  refine (refShifts_any J a n c _ HS.out.en hm4 HS.out.rg).mono ?_
  rintro e w2 ⟨a', c', rfl, hrg, hb1⟩
  obtain ⟨c0, hc0⟩ := conds_0 J.sh
  obtain ⟨q, off, rfl, _, _, _⟩ := hrg 0 c0 hc0
  have HS2 := hidMk (HS.out.next hb1)
  have HRG := hidMk hrg
  clear hc0 hrg hb1 hj HS
  go_wp2_with fail
  exact pspart3 HS2.out HV.out H0.out HRG.out rfl
set_option maxHeartbeats 4000000 in
set_option maxRecDepth 1000000 in
theorem pspart1 {w0 w1 : World} {g1 g2 : Nat} {J : Jb} {a : Option Addr} {n c : Nat} {x y V : Int} {u0 u1 u4 u5 u6 u7 u8 u9 u10 u11 u12 u13 u14 u15 u16 u17 u18 u19 u20 u21 u22 u23 u24 u25 u26 u27 u28 u29 u30 u31 u32 u33 u34 u35 u36 u37 u38 u39 u40 u41 u42 u43 u44 u45 u46 u47 u48 u49 u50 u51 u52 u53 u54 u55 : Value} (hs : PS w0 w1 g1 g2 J a n c x y) (hV : V = passI J.wi J.sh x y) : Code.wp Try.prog psrest1 (QP V w0) ⟨#[u0, u1, (.pointer (some ⟨g1, 0, none⟩)), (.pointer (some ⟨g2, 0, none⟩)), u4, u5, u6, u7, u8, u9, u10, u11, u12, u13, u14, u15, u16, u17, u18, u19, u20, u21, u22, u23, u24, u25, u26, u27, u28, u29, u30, u31, u32, u33, u34, u35, u36, u37, u38, u39, u40, u41, u42, u43, u44, u45, u46, u47, u48, u49, u50, u51, u52, u53, u54, u55], []⟩ w1 := by
  rw [psrest1_eq]
  have HV := hidMk hV
  clear hV
  by_cases h0 : (win J.wi J.sh).1 ≤ x ∧ y ≤ (win J.wi J.sh).2
  · have hD : decide ((win J.wi J.sh).1 ≤ x ∧ y ≤ (win J.wi J.sh).2) = true := decide_eq_true h0
    have HP : Hid (passI J.wi J.sh x y = 1) := by
      show passI J.wi J.sh x y = 1
      unfold passI
      rw [if_pos h0]
    clear h0
    refine wp_seq_k fun K0 hK0 => ?_
    refine wp_seq_k fun K hKK => ?_
    refine region_via (R := fun a_ e a' w' => e = .normal ∧ ∃ (v9 v10 v11 : Value), a' = ((((a_.put (some 9) v9).put (some 10) v10).put (some 11) v11).put (some 12) (.bool true)) ∧ PS w0 w' g1 g2 J a n c x y) ?_ ?_
    rotate_left
    · rintro e a' w' ⟨rfl, v9, v10, v11, rfl, hs'⟩
      refine hKK _ _ ?_
      simp only [Act.put, aT, aZ, aS]
      have HS' := hidMk hs'
      clear hs' hs hKK
      unfold QP
      go_wp2_with fail
      go_ret
      exact ⟨ret_i (by rw [HV.out, HP.out]), HS'.out.b0⟩
    refine wp_region_held_drew (S := fun w' => PS w0 w' g1 g2 J a n c x y) (by kernel_rfl) (hs.next (Below.refl _ _).drew) (fun hS0 => ?_)
    clear hs
    generalize hWd : w1.drew = wd at hS0 ⊢
    clear hWd
    refine wpAnyH_take (i := 0) (oi := ⟨some 9, .load 23 (.tmp 3), 23, "ref.go:91", #[], none⟩) (v := ?_) rfl (by kernel_rfl) (by kernel_rfl) (by kernel_rfl) (fun _ _ _ h => by cases h.1) (.inl ⟨by rfl, ?_⟩) (by assumption) ?_
    rotate_left
    · (intro w' hSw; (try dsimp only at hSw); (have x0 := hSw.ran.at_ 0 (.int .i64 x) rfl; have x1 := hSw.ran.at_ 1 (.int .i64 y) rfl); go_simp <;> with_reducible rfl)
    (try simp only [Act.put, aT, aZ, aS])
    refine wpAnyH_take (i := 1) (oi := ⟨some 10, .load 30 (.tmp 2), 30, "ref.go:91", #[], none⟩) rfl (by kernel_rfl) (by kernel_rfl) (by kernel_rfl) (fun _ _ _ h => by cases h.1) (yields_row (by rfl) 30 _ rfl g1 (jobC J (.slice a n c)) rfl 30 (fun w hw => hw.job) Try.underlying30 szJob) (by assumption) ?_
    (try simp only [Act.put, aT, aZ, aS])
    refine wpAnyH_ready (rs := [2]) (by kernel_rfl) (by simp) ?_
    refine AllReadyH.cons (o := ⟨some 11, .call { callee := .value (.func 65), args := #[.tmp 10], argTypes := #[30] }, 23, "ref.go:91", #[⟨1, .data⟩], none⟩) rfl (fun K hK => ?_) ?_
    · go_simp
      go_at_call 65
      refine (refWindow0_any J hS0.inn a n c _ hS0.en hS0.rg).mono ?_
      rintro e w2 ⟨rfl, hb2⟩
      go_wp2_with fail
      have hS2 := hS0.next hb2
      refine hK.out _ _ hS2 (fun _ => ?_)
      clear hK K
      (try simp only [Act.put, aT, aZ, aS])
      refine wpAnyH_ready (rs := [3]) (by kernel_rfl) (by simp) ?_
      refine AllReadyH.cons (o := ⟨some 12, .call { callee := .value (.func 64), args := #[.tmp 9, .tmp 11], argTypes := #[23, 23] }, 4, "ref.go:91", #[⟨0, .data⟩, ⟨2, .data⟩, ⟨2, .chain⟩], none⟩) rfl (fun K hK => ?_) ?_
      · go_simp
        go_at_call 64
        refine (inside_any x y _ _ _).mono ?_
        rintro e w3 ⟨rfl, hb3⟩
        rw [hD]
        go_wp2_with fail
        have hS3 := hS2.next hb3
        refine hK.out _ _ hS3 (fun _ => ?_)
        clear hK K
        (try simp only [Act.put, aT, aZ, aS])
        refine wpAnyH_done (by kernel_rfl) ?_ _
        exact ⟨rfl, _, _, _, rfl, hS3⟩
      exact AllReadyH.nil
    exact AllReadyH.nil
  · have hD : decide ((win J.wi J.sh).1 ≤ x ∧ y ≤ (win J.wi J.sh).2) = false := decide_eq_false h0
    have H0 := hidMk h0
    clear h0
    refine wp_seq_k fun K0 hK0 => ?_
    refine wp_seq_k fun K hKK => ?_
    refine region_via (R := fun a_ e a' w' => e = .normal ∧ ∃ (v9 v10 v11 : Value), a' = ((((a_.put (some 9) v9).put (some 10) v10).put (some 11) v11).put (some 12) (.bool false)) ∧ PS w0 w' g1 g2 J a n c x y) ?_ ?_
    rotate_left
    · rintro e a' w' ⟨rfl, v9, v10, v11, rfl, hs'⟩
      refine hKK _ _ ?_
      simp only [Act.put, aT, aZ, aS]
      have HS' := hidMk hs'
      clear hs' hs hKK
      go_wp2_with fail
      exact pspart2 HS'.out HV.out H0.out
    refine wp_region_held_drew (S := fun w' => PS w0 w' g1 g2 J a n c x y) (by kernel_rfl) (hs.next (Below.refl _ _).drew) (fun hS0 => ?_)
    clear hs
    generalize hWd : w1.drew = wd at hS0 ⊢
    clear hWd
    refine wpAnyH_take (i := 0) (oi := ⟨some 9, .load 23 (.tmp 3), 23, "ref.go:91", #[], none⟩) (v := ?_) rfl (by kernel_rfl) (by kernel_rfl) (by kernel_rfl) (fun _ _ _ h => by cases h.1) (.inl ⟨by rfl, ?_⟩) (by assumption) ?_
    rotate_left
    · (intro w' hSw; (try dsimp only at hSw); (have x0 := hSw.ran.at_ 0 (.int .i64 x) rfl; have x1 := hSw.ran.at_ 1 (.int .i64 y) rfl); go_simp <;> with_reducible rfl)
    (try simp only [Act.put, aT, aZ, aS])
    refine wpAnyH_take (i := 1) (oi := ⟨some 10, .load 30 (.tmp 2), 30, "ref.go:91", #[], none⟩) rfl (by kernel_rfl) (by kernel_rfl) (by kernel_rfl) (fun _ _ _ h => by cases h.1) (yields_row (by rfl) 30 _ rfl g1 (jobC J (.slice a n c)) rfl 30 (fun w hw => hw.job) Try.underlying30 szJob) (by assumption) ?_
    (try simp only [Act.put, aT, aZ, aS])
    refine wpAnyH_ready (rs := [2]) (by kernel_rfl) (by simp) ?_
    refine AllReadyH.cons (o := ⟨some 11, .call { callee := .value (.func 65), args := #[.tmp 10], argTypes := #[30] }, 23, "ref.go:91", #[⟨1, .data⟩], none⟩) rfl (fun K hK => ?_) ?_
    · go_simp
      go_at_call 65
      refine (refWindow0_any J hS0.inn a n c _ hS0.en hS0.rg).mono ?_
      rintro e w2 ⟨rfl, hb2⟩
      go_wp2_with fail
      have hS2 := hS0.next hb2
      refine hK.out _ _ hS2 (fun _ => ?_)
      clear hK K
      (try simp only [Act.put, aT, aZ, aS])
      refine wpAnyH_ready (rs := [3]) (by kernel_rfl) (by simp) ?_
      refine AllReadyH.cons (o := ⟨some 12, .call { callee := .value (.func 64), args := #[.tmp 9, .tmp 11], argTypes := #[23, 23] }, 4, "ref.go:91", #[⟨0, .data⟩, ⟨2, .data⟩, ⟨2, .chain⟩], none⟩) rfl (fun K hK => ?_) ?_
      · go_simp
        go_at_call 64
        refine (inside_any x y _ _ _).mono ?_
        rintro e w3 ⟨rfl, hb3⟩
        rw [hD]
        go_wp2_with fail
        have hS3 := hS2.next hb3
        refine hK.out _ _ hS3 (fun _ => ?_)
        clear hK K
        (try simp only [Act.put, aT, aZ, aS])
        refine wpAnyH_done (by kernel_rfl) ?_ _
        exact ⟨rfl, _, _, _, rfl, hS3⟩
      exact AllReadyH.nil
    exact AllReadyH.nil
set_option maxHeartbeats 1000000 in
set_option maxRecDepth 100000 in
theorem refPasses0_any (J : Jb) (hJ : J.In 200) (a : Option Addr) (n c : Nat) (x y : Int) (hx : (-1000 ≤ x ∧ x ≤ 1000) ∧ (-1000 ≤ y ∧ y ≤ 1000)) (w : World) (hn : n = J.sh.length) (h : Rg w w.heap.size a J.sh) :
    Calls Try.prog 52 #[.agg (jobC J (.slice a n c)), .agg #[.int .i64 x, .int .i64 y]] w fun e w' => e = .returned (.int .i64 (passI J.wi J.sh x y)) ∧ Below w.heap.size w w' := by
  have hs : PS w ((w.alloc (.cells (jobC J (.slice a n c)) 30)).alloc (.cells #[.int .i64 x, .int .i64 y] 23)) w.heap.size (w.heap.size + 1) J a n c x y :=
    ⟨(Bk.new _ _ _).alloc _, Bk.newAt _ _ _ _ (by simp), ((Below.refl _ _).alloc (Nat.le_refl _) _).alloc (by simp) _, h.up (((Below.refl _ _).alloc (Nat.le_refl _) _).alloc (by simp) _), hJ, hn, hx⟩
  have HS := hidMk hs
  clear hs hn h hx hJ
  go_enter Try.func52, Try.ntmps52
  show Code.wp Try.prog psbody (QP (passI J.wi J.sh x y) w) _ _
  rw [psbody_eq]
  go_wp2_with fail
  exact pspart1 HS.out rfl
end Go.Proofs.Ytbbekjcldbbhiaa
