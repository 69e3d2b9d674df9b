/- Part 27 of the proof: RefP, StrokeX. -/
import Derived.Test.YtdficjnnlaicpaaT26
import Derived.Test.YtdficjnnlaicpaaT19
import Derived.Test.YtdficjnnlaicpaaT14
import Derived.Test.YtdficjnnlaicpaaT15
/- The contract of the reference's Worst. -/
namespace Go.Proofs.Ytdficjnnlaicpaa
set_option linter.all false
open Go.RowKit
noncomputable def wobody : Code := Try.f25.body.getD .skip
noncomputable def worest1 : Code := sndC wobody
noncomputable def worest2 : Code := sndC worest1
noncomputable def worest3 : Code := sndC worest2
noncomputable def worest4 : Code := sndC worest3
set_option maxRecDepth 1000000 in
theorem wobody_eq : wobody = .seq (Code.region 0 #[⟨some 2, .box 30 (.tmp 0), 0, "stroke.go:51", #[], none⟩, ⟨some 4, .assign (.const (.int .i64 0)), 3, "stroke.go:51", #[], none⟩, ⟨some 5, .assign (.const (.int .i64 0)), 39, "stroke.go:51", #[⟨1, .chain⟩], none⟩] false) worest1 := by kernel_rfl
set_option maxRecDepth 1000000 in
theorem worest1_eq : worest1 = .seq (.seq (Code.region 1 #[⟨some 11, .load 30 (.tmp 2), 30, "stroke.go:52", #[], none⟩, ⟨some 12, .move (.tmp 1), 31, "stroke.go:52", #[], none⟩, ⟨some 13, .call { callee := .value (.func 57), args := #[.tmp 11, .tmp 12], argTypes := #[30, 31] }, 39, "stroke.go:52", #[⟨0, .data⟩, ⟨1, .data⟩], none⟩, ⟨some 6, .assign (.tmp 13), 39, "stroke.go:52", #[⟨2, .data⟩, ⟨2, .chain⟩, ⟨0, .phase⟩, ⟨1, .phase⟩, ⟨2, .phase⟩], none⟩] false) (.seq (Code.region 2 #[⟨some 14, .move (.tmp 6), 39, "stroke.go:52", #[], none⟩, ⟨some 15, .binOp .neq 39 (.tmp 14) (.const (.int .i64 0)) 39, 4, "stroke.go:52", #[⟨0, .data⟩], none⟩] false) (.cond (.tmp 15) (.seq (Code.region 3 #[⟨some 16, .move (.tmp 6), 39, "stroke.go:53", #[⟨1, .gcOnly .lateStores⟩], none⟩, ⟨some 4, .assign (.const (.int .i64 0)), 3, "stroke.go:53", #[⟨0, .textOnly .lateStores⟩], none⟩, ⟨some 5, .assign (.tmp 16), 39, "stroke.go:53", #[⟨0, .data⟩, ⟨1, .chain⟩, ⟨0, .phase⟩, ⟨1, .phase⟩], none⟩] false) .ret) .skip))) worest2 := by kernel_rfl
set_option maxRecDepth 1000000 in
theorem worest2_eq : worest2 = .seq (Code.region 4 #[⟨some 17, .load 30 (.tmp 2), 30, "stroke.go:55", #[], none⟩, ⟨some 18, .move (.tmp 1), 31, "stroke.go:55", #[], none⟩, ⟨some 19, .call { callee := .value (.func 58), args := #[.tmp 17, .tmp 18], argTypes := #[30, 31] }, 25, "stroke.go:55", #[⟨0, .data⟩, ⟨1, .data⟩], none⟩, ⟨some 20, .load 30 (.tmp 2), 30, "stroke.go:55", #[], none⟩, ⟨some 21, .call { callee := .value (.func 60), args := #[.tmp 20], argTypes := #[30] }, 28, "stroke.go:55", #[⟨3, .data⟩, ⟨2, .chain⟩], none⟩, ⟨some 7, .alloc 25, 0, "stroke.go:55", #[], none⟩, ⟨none, .store 25 (.tmp 7) (.tmp 19), 0, "stroke.go:55", #[⟨5, .data⟩, ⟨2, .data⟩, ⟨4, .chain⟩, ⟨0, .phase⟩, ⟨1, .phase⟩, ⟨2, .phase⟩, ⟨3, .textOnly .lateStores⟩, ⟨4, .textOnly .lateStoresUnsure⟩, ⟨5, .phase⟩], none⟩, ⟨some 8, .assign (.tmp 21), 28, "stroke.go:55", #[⟨4, .data⟩, ⟨6, .chain⟩, ⟨0, .phase⟩, ⟨1, .phase⟩, ⟨2, .phase⟩, ⟨3, .phase⟩, ⟨4, .phase⟩, ⟨5, .phase⟩, ⟨6, .phase⟩], none⟩, ⟨some 9, .assign (.const (.int .i64 0)), 3, "stroke.go:55", #[⟨7, .chain⟩, ⟨0, .phase⟩, ⟨1, .phase⟩, ⟨2, .phase⟩, ⟨3, .phase⟩, ⟨4, .phase⟩, ⟨5, .phase⟩, ⟨6, .phase⟩, ⟨7, .phase⟩], none⟩] true) worest3 := by kernel_rfl
set_option maxRecDepth 1000000 in
theorem worest3_eq : worest3 = .seq (.seq (Code.region 5 #[⟨some 10, .assign (.const (.int .i64 0)), 3, "stroke.go:56", #[], none⟩] false) (.block 0 (.loop (.seq (.seq (Code.region 6 #[⟨some 22, .move (.tmp 10), 3, "stroke.go:56", #[], none⟩, ⟨some 23, .move (.tmp 8), 28, "stroke.go:56", #[], none⟩, ⟨some 24, .call { callee := .builtin .len, args := #[.tmp 23], argTypes := #[28] }, 3, "stroke.go:56", #[⟨1, .data⟩], none⟩, ⟨some 25, .binOp .lss 3 (.tmp 22) (.tmp 24) 3, 4, "stroke.go:56", #[⟨0, .data⟩, ⟨2, .data⟩], none⟩] false) (.cond (.tmp 25) .skip (.exit 0))) (.seq (.block 1 (Code.region 8 #[⟨some 28, .move (.tmp 9), 3, "stroke.go:57", #[], none⟩, ⟨some 29, .fieldAddr 25 (.tmp 7) 0, 0, "stroke.go:57", #[], none⟩, ⟨some 30, .fieldAddr 23 (.tmp 29) 1, 0, "stroke.go:57", #[⟨1, .data⟩], none⟩, ⟨some 31, .load 3 (.tmp 30), 3, "stroke.go:57", #[⟨2, .data⟩], none⟩, ⟨some 32, .move (.tmp 8), 28, "stroke.go:57", #[], none⟩, ⟨some 33, .move (.tmp 10), 3, "stroke.go:57", #[], none⟩, ⟨some 34, .indexAddr 28 (.tmp 32) (.tmp 33), 0, "stroke.go:57", #[⟨4, .data⟩, ⟨5, .data⟩], none⟩, ⟨some 35, .fieldAddr 23 (.tmp 34) 1, 0, "stroke.go:57", #[⟨6, .data⟩], none⟩, ⟨some 36, .load 3 (.tmp 35), 3, "stroke.go:57", #[⟨7, .data⟩], none⟩, ⟨some 37, .binOp .add 3 (.tmp 31) (.tmp 36) 3, 3, "stroke.go:57", #[⟨3, .data⟩, ⟨8, .data⟩], none⟩, ⟨some 38, .fieldAddr 25 (.tmp 7) 0, 0, "stroke.go:57", #[], none⟩, ⟨some 39, .fieldAddr 23 (.tmp 38) 0, 0, "stroke.go:57", #[⟨10, .data⟩], none⟩, ⟨some 40, .load 3 (.tmp 39), 3, "stroke.go:57", #[⟨11, .data⟩], none⟩, ⟨some 41, .move (.tmp 8), 28, "stroke.go:57", #[], none⟩, ⟨some 42, .move (.tmp 10), 3, "stroke.go:57", #[], none⟩, ⟨some 43, .indexAddr 28 (.tmp 41) (.tmp 42), 0, "stroke.go:57", #[⟨13, .data⟩, ⟨14, .data⟩], none⟩, ⟨some 44, .fieldAddr 23 (.tmp 43) 0, 0, "stroke.go:57", #[⟨15, .data⟩], none⟩, ⟨some 45, .load 3 (.tmp 44), 3, "stroke.go:57", #[⟨16, .data⟩], none⟩, ⟨some 46, .binOp .add 3 (.tmp 40) (.tmp 45) 3, 3, "stroke.go:57", #[⟨12, .data⟩, ⟨17, .data⟩], none⟩, ⟨some 47, .unOp .neg 3 (.tmp 46), 3, "stroke.go:57", #[⟨18, .data⟩], none⟩, ⟨some 48, .call { callee := .builtin .max, args := #[.tmp 28, .tmp 37, .tmp 47], argTypes := #[3, 3, 3] }, 3, "stroke.go:57", #[⟨0, .data⟩, ⟨9, .data⟩, ⟨19, .data⟩], none⟩, ⟨some 9, .assign (.tmp 48), 3, "stroke.go:57", #[⟨20, .data⟩, ⟨0, .phase⟩, ⟨1, .phase⟩, ⟨2, .phase⟩, ⟨3, .phase⟩, ⟨4, .phase⟩, ⟨5, .phase⟩, ⟨6, .phase⟩, ⟨7, .phase⟩, ⟨8, .phase⟩, ⟨9, .phase⟩, ⟨10, .phase⟩, ⟨11, .phase⟩, ⟨12, .phase⟩, ⟨13, .phase⟩, ⟨14, .phase⟩, ⟨15, .phase⟩, ⟨16, .phase⟩, ⟨17, .phase⟩, ⟨18, .phase⟩, ⟨19, .phase⟩, ⟨20, .phase⟩], none⟩] true)) (Code.region 7 #[⟨some 26, .move (.tmp 10), 3, "stroke.go:56", #[], none⟩, ⟨some 27, .binOp .add 3 (.tmp 26) (.const (.int .i64 1)) 3, 3, "stroke.go:56", #[⟨0, .data⟩], none⟩, ⟨some 10, .assign (.tmp 27), 3, "stroke.go:56", #[⟨1, .data⟩, ⟨0, .phase⟩, ⟨1, .phase⟩], none⟩] false)))))) worest4 := by kernel_rfl
set_option maxRecDepth 1000000 in
theorem worest4_eq : worest4 = .seq (Code.region 9 #[⟨some 49, .move (.tmp 9), 3, "stroke.go:59", #[], none⟩, ⟨some 4, .assign (.tmp 49), 3, "stroke.go:59", #[⟨0, .data⟩, ⟨0, .phase⟩], none⟩, ⟨some 5, .assign (.const (.int .i64 0)), 39, "stroke.go:59", #[⟨1, .chain⟩, ⟨0, .phase⟩, ⟨1, .phase⟩], none⟩] false) .ret := by kernel_rfl

theorem Rg.put {w : World} {B g i : Nat} {v : Value} {a : Option Addr} {l : List R2} (h : Rg w B a l) (hne : ∀ q off, a = some ⟨q, off, none⟩ → q ≠ g) : Rg (w.setCell ⟨g, i, none⟩ v) B a l := fun k x hk => by
  obtain ⟨q, off, e, hq, e0, e1⟩ := h k x hk
  have hn : g ≠ q := fun h => hne q off e h.symm
  exact ⟨q, off, e, hq, (cell_other _ _ _ _ _ _ hn).trans e0, (cell_other _ _ _ _ _ _ hn).trans e1⟩
/-- What the reference's shifts hands back: the given slice, or a block that is new. -/
def CondsEndB (J : Jb) (B : Nat) (w : World) (e : Ending) (w' : World) : Prop :=
  ∃ a c, e = .returned (.slice a (conds J.sh).length c) ∧ Rg w' w'.heap.size a (conds J.sh) ∧ Below w.heap.size w w' ∧ ∀ q off, a = some ⟨q, off, none⟩ → q < B ∨ w.heap.size ≤ q
set_option maxHeartbeats 400000 in
theorem refShiftsB_any (J : Jb) (B : Nat) (a : Option Addr) (n c : Nat) (w : World) (hn : n = J.sh.length) (hm : n ≤ 4) (h : Rg w w.heap.size a J.sh) (hBB : Rg w B a J.sh) :
    Calls Try.prog 60 #[.agg (jobC J (.slice a n c))] w (CondsEndB J B w) := by
  have Hn := hidMk hn
  have Hh := hidMk h
  have HB := hidMk hBB
  clear hn h hBB
  by_cases h0 : n = 0
  · subst h0
    go_enter Try.func60, Try.ntmps60
    go_wp2
    go_ret
    have e : J.sh = [] := List.length_eq_zero_iff.1 Hn.out.symm
    refine ⟨some ⟨w.heap.size + 1, 0, none⟩, 1, by rw [e]; rfl, ?_, ((Below.refl _ _).alloc (Nat.le_refl _) _).alloc (by simp) _, fun q off e => by cases e; right; omega⟩
    rw [e]
    intro k x hx
    match k, hx with
    | 0, hx =>
      obtain rfl : ((0 : Int), (0 : Int)) = x := by simpa [conds] using hx
      exact ⟨w.heap.size + 1, 0, rfl, by simp, by simp [go_sem], by simp [go_sem]⟩
  · have hb : ((n : Int) == 0) = false := by rw [beq_eq_false_iff_ne]; omega
    have hpos : 0 < n := by omega
    clear h0
    go_enter Try.func60, Try.ntmps60
    go_wp2
    go_ret
    have hz : 0 < J.sh.length := by rw [← Hn.out]; exact hpos
    have e : conds J.sh = J.sh := by
      unfold conds
      rw [if_neg]
      intro k
      rw [k] at hz
      exact absurd hz (by decide)
    refine ⟨a, c, by rw [e, ← Hn.out]; rfl, ?_, (Below.refl _ _).alloc (Nat.le_refl _) _, fun q off ea => ?_⟩
    · rw [e]
      exact Hh.out.keep (by simp) fun p hp => World.cell?_alloc_lt w _ p hp
    · obtain ⟨q', off', e', hq, _⟩ := HB.out 0 _ (List.getElem?_eq_getElem hz)
      rw [e'] at ea
      cases ea
      exact .inl hq
theorem mx_swap (m x y : Int) : mx (mx m x) y = mx (mx m y) x := by
  unfold mx
  (repeat' split) <;> omega
def worstX (J : Jb) (l : List Int) : Int × Int := if filedE J l = 0 then (worstI (J.setTg (afterS J J.tg l)) (afterS J J.tg l), 0) else (0, filedE J l)
def QO (V : Int) (w0 : World) : Exit → Act → World → Prop := bodyPost Try.prog Try.f25 fun e w' => e = .returned (.tuple #[.int .i64 V, .int .i64 0]) ∧ Below w0.heap.size w0 w'
structure WoS (w0 w1 : World) (g0 : Nat) (J : Jb) (a : Option Addr) (n c : Nat) (b : Option Addr) (m : Nat) (l : List Int) : Prop where
  job : Bk w1 g0 30 (jobC J (.slice a n c))
  b0 : Below w0.heap.size w0 w1
  rg : Rg w1 w1.heap.size a J.sh
  is : Is w1 w1.heap.size b l
  inn : J.In 200
  en : n = J.sh.length
  em : m = l.length
  m6 : m ≤ 6
  kd : ∀ x ∈ l, x = 1 ∨ x = 2
set_option maxHeartbeats 4000000 in
set_option maxRecDepth 1000000 in
theorem wopart3 {w0 w1 : World} {J : Jb} {t : Tg} {V : Int} {g0 g7 q off k8 c8 : Nat} {u0 u1 u3 u4 u5 u6 u10 u11 u12 u13 u14 u15 u16 u17 u18 u19 u20 u21 u22 u23 u24 u25 u26 u27 u28 u29 u30 u31 u32 u33 u34 u35 u36 u37 u38 u39 u40 u41 u42 u43 u44 u45 u46 u47 u48 u49 : Value} (hb0 : Below w0.heap.size w0 w1) (hin : J.In 200) (hT : t.In 200) (hV : V = (conds J.sh).foldl (worstStep t) 0) (h7 : Bk w1 g7 25 #[.int .i64 t.p1, .int .i64 t.p2, .int .i64 t.t1, .int .i64 t.t2, .int .i64 t.r1, .int .i64 t.r2]) (hc : Rg w1 w1.heap.size (some ⟨q, off, none⟩) (conds J.sh)) (hk8 : k8 = (conds J.sh).length) : Code.wp Try.prog worest3 (QO V w0) ⟨#[u0, u1, (.pointer (some ⟨g0, 0, none⟩)), u3, u4, u5, u6, (.pointer (some ⟨g7, 0, none⟩)), (.slice (some ⟨q, off, none⟩) k8 c8), (.int .i64 0), u10, u11, u12, u13, u14, u15, u16, u17, u18, u19, u20, u21, u22, u23, u24, u25, u26, u27, u28, u29, u30, u31, u32, u33, u34, u35, u36, u37, u38, u39, u40, u41, u42, u43, u44, u45, u46, u47, u48, u49], []⟩ w1 := by
  rw [worest3_eq]
  obtain ⟨p1b1, p1b2, p2b1, p2b2, _⟩ := hT
  have HIN := hidMk hin
  have HV := hidMk hV
  have Hm := hidMk hk8
  have HB0 := hidMk hb0
  have HC := hidMk hc
  have hm4 : k8 ≤ 4 := by have := (conds_len J.sh hin.len).2; omega
  clear hin hV hk8 hb0 hc
  unfold QO
  refine wp_seq_k fun K0 hK0 => ?_
  go_wp2_with fail
  go_loopw [9, 10] (fun v i wr => ∃ k : Nat, k ≤ k8 ∧ i = .int .i64 k ∧ v = .int .i64 (((conds J.sh).take k).foldl (worstStep t) 0) ∧ Below w1.heap.size w1 wr) (fun _ i _ => k8 - (intOf i).toNat)
  case atStart => exact ⟨0, Nat.zero_le _, rfl, rfl, Below.refl _ _⟩
  case round =>
    obtain ⟨k, hk, rfl, rfl, hB⟩ := hrel
    by_cases hlt : k < k8
    · have hkl : k < (conds J.sh).length := by rw [← Hm.out]; exact hlt
      obtain ⟨q', off', e', hbl, e0, e1⟩ := HC.out k (conds J.sh)[k] (List.getElem?_eq_getElem hkl)
      cases e'
      obtain ⟨s1, s2, s3, s4⟩ := conds_in J.sh HIN.out.sh _ (List.getElem_mem hkl)
      obtain ⟨s, Hs⟩ : ∃ s, Hid (s = (conds J.sh)[k]) := ⟨_, hidMk rfl⟩
      obtain ⟨M, HM⟩ : ∃ M, Hid (M = ((conds J.sh).take k).foldl (worstStep t) 0) := ⟨_, hidMk rfl⟩
      rw [← HM.out]
      rw [← Hs.out] at s1 s2 s3 s4 e0 e1
      have ew1 : IntKind.i64.wrap (t.p2 + s.2) = t.p2 + s.2 := IntWalk.i64_in _ (by omega)
      have ew2 : IntKind.i64.wrap (t.p1 + s.1) = t.p1 + s.1 := IntWalk.i64_in _ (by omega)
      have ew3 : IntKind.i64.wrap (-(t.p1 + s.1)) = -(t.p1 + s.1) := IntWalk.i64_in _ (by omega)
      go_wp2_with fail
      refine region_via (R := fun a_ e a' w' => e = .normal ∧ ∃ (v28 v29 v30 v31 v32 v33 v34 v35 v36 v37 v38 v39 v40 v41 v42 v43 v44 v45 v46 v47 v48 : Value) (z : Int), a' = ((((((((((((((((((((((a_.put (some 28) v28).put (some 29) v29).put (some 30) v30).put (some 31) v31).put (some 32) v32).put (some 33) v33).put (some 34) v34).put (some 35) v35).put (some 36) v36).put (some 37) v37).put (some 38) v38).put (some 39) v39).put (some 40) v40).put (some 41) v41).put (some 42) v42).put (some 43) v43).put (some 44) v44).put (some 45) v45).put (some 46) v46).put (some 47) v47).put (some 48) v48).put (some 9) (.int .i64 z)) ∧ z = worstStep t M s ∧ Below w1.heap.size w1 w') ?_ ?_
      rotate_left
      · rintro e a' w' ⟨rfl, v28, v29, v30, v31, v32, v33, v34, v35, v36, v37, v38, v39, v40, v41, v42, v43, v44, v45, v46, v47, v48, z, rfl, hz, hB'⟩
        simp only [Act.put, aT, aZ, aS]
        have HB' := hidMk hB'
        have HZ := hidMk hz
        clear hB hB' e0 e1 hz
        go_wp2_with fail
        go_roundw
        case rel =>
          refine ⟨k + 1, by omega, by go_num, ?_, HB'.out⟩
          rw [HZ.out, HM.out, Hs.out, take_snoc _ k hkl, worst_snoc]
        case measure => simp [intOf]; omega
      refine wp_region_held_drew (S := fun w' => Below w1.heap.size w1 w') (by kernel_rfl) hB.drew (fun hS0 => ?_)
      replace hB := hB.drew
      generalize hWd : wr.drew = wd at hS0 hB ⊢
      clear hWd
      refine wpAnyH_take (i := 0) (v := ?_) rfl (by kernel_rfl) (by kernel_rfl) (by kernel_rfl) (fun _ _ _ h => by cases h.1) (.inl ⟨by rfl, ?_⟩) (by assumption) ?_
      rotate_left
      · (intro w' hSw; (try dsimp only at hSw); (have t0 := (h7.below hSw h7.lt).at_ 0 (.int .i64 t.p1) rfl; have t1 := (h7.below hSw h7.lt).at_ 1 (.int .i64 t.p2) rfl; have s0 := (hSw.cell (p := ⟨q, off + k * 2, none⟩) hbl).trans e0; have s1 := (hSw.cell (p := ⟨q, off + k * 2 + 1, none⟩) hbl).trans e1); go_simp <;> with_reducible rfl)
      (try simp only [Act.put, aT, aZ, aS])
      refine wpAnyH_take (i := 1) (v := ?_) rfl (by kernel_rfl) (by kernel_rfl) (by kernel_rfl) (fun _ _ _ h => by cases h.1) (.inl ⟨by rfl, ?_⟩) (by assumption) ?_
      rotate_left
      · (intro w' hSw; (try dsimp only at hSw); (have t0 := (h7.below hSw h7.lt).at_ 0 (.int .i64 t.p1) rfl; have t1 := (h7.below hSw h7.lt).at_ 1 (.int .i64 t.p2) rfl; have s0 := (hSw.cell (p := ⟨q, off + k * 2, none⟩) hbl).trans e0; have s1 := (hSw.cell (p := ⟨q, off + k * 2 + 1, none⟩) hbl).trans e1); go_simp <;> with_reducible rfl)
      (try simp only [Act.put, aT, aZ, aS])
      refine wpAnyH_take (i := 2) (v := ?_) rfl (by kernel_rfl) (by kernel_rfl) (by kernel_rfl) (fun _ _ _ h => by cases h.1) (.inl ⟨by rfl, ?_⟩) (by assumption) ?_
      rotate_left
      · (intro w' hSw; (try dsimp only at hSw); (have t0 := (h7.below hSw h7.lt).at_ 0 (.int .i64 t.p1) rfl; have t1 := (h7.below hSw h7.lt).at_ 1 (.int .i64 t.p2) rfl; have s0 := (hSw.cell (p := ⟨q, off + k * 2, none⟩) hbl).trans e0; have s1 := (hSw.cell (p := ⟨q, off + k * 2 + 1, none⟩) hbl).trans e1); go_simp <;> with_reducible rfl)
      (try simp only [Act.put, aT, aZ, aS])
      refine wpAnyH_take (i := 3) (v := ?_) rfl (by kernel_rfl) (by kernel_rfl) (by kernel_rfl) (fun _ _ _ h => by cases h.1) (.inl ⟨by rfl, ?_⟩) (by assumption) ?_
      rotate_left
      · (intro w' hSw; (try dsimp only at hSw); (have t0 := (h7.below hSw h7.lt).at_ 0 (.int .i64 t.p1) rfl; have t1 := (h7.below hSw h7.lt).at_ 1 (.int .i64 t.p2) rfl; have s0 := (hSw.cell (p := ⟨q, off + k * 2, none⟩) hbl).trans e0; have s1 := (hSw.cell (p := ⟨q, off + k * 2 + 1, none⟩) hbl).trans e1); go_simp <;> with_reducible rfl)
      (try simp only [Act.put, aT, aZ, aS])
      refine wpAnyH_take (i := 4) (v := ?_) rfl (by kernel_rfl) (by kernel_rfl) (by kernel_rfl) (fun _ _ _ h => by cases h.1) (.inl ⟨by rfl, ?_⟩) (by assumption) ?_
      rotate_left
      · (intro w' hSw; (try dsimp only at hSw); (have t0 := (h7.below hSw h7.lt).at_ 0 (.int .i64 t.p1) rfl; have t1 := (h7.below hSw h7.lt).at_ 1 (.int .i64 t.p2) rfl; have s0 := (hSw.cell (p := ⟨q, off + k * 2, none⟩) hbl).trans e0; have s1 := (hSw.cell (p := ⟨q, off + k * 2 + 1, none⟩) hbl).trans e1); go_simp <;> with_reducible rfl)
      (try simp only [Act.put, aT, aZ, aS])
      refine wpAnyH_take (i := 5) (v := ?_) rfl (by kernel_rfl) (by kernel_rfl) (by kernel_rfl) (fun _ _ _ h => by cases h.1) (.inl ⟨by rfl, ?_⟩) (by assumption) ?_
      rotate_left
      · (intro w' hSw; (try dsimp only at hSw); (have t0 := (h7.below hSw h7.lt).at_ 0 (.int .i64 t.p1) rfl; have t1 := (h7.below hSw h7.lt).at_ 1 (.int .i64 t.p2) rfl; have s0 := (hSw.cell (p := ⟨q, off + k * 2, none⟩) hbl).trans e0; have s1 := (hSw.cell (p := ⟨q, off + k * 2 + 1, none⟩) hbl).trans e1); go_simp <;> with_reducible rfl)
      (try simp only [Act.put, aT, aZ, aS])
      refine wpAnyH_take (i := 6) (v := ?_) rfl (by kernel_rfl) (by kernel_rfl) (by kernel_rfl) (fun _ _ _ h => by cases h.1) (.inl ⟨by rfl, ?_⟩) (by assumption) ?_
      rotate_left
      · (intro w' hSw; (try dsimp only at hSw); (have t0 := (h7.below hSw h7.lt).at_ 0 (.int .i64 t.p1) rfl; have t1 := (h7.below hSw h7.lt).at_ 1 (.int .i64 t.p2) rfl; have s0 := (hSw.cell (p := ⟨q, off + k * 2, none⟩) hbl).trans e0; have s1 := (hSw.cell (p := ⟨q, off + k * 2 + 1, none⟩) hbl).trans e1); go_simp <;> with_reducible rfl)
      (try simp only [Act.put, aT, aZ, aS])
      refine wpAnyH_take (i := 7) (v := ?_) rfl (by kernel_rfl) (by kernel_rfl) (by kernel_rfl) (fun _ _ _ h => by cases h.1) (.inl ⟨by rfl, ?_⟩) (by assumption) ?_
      rotate_left
      · (intro w' hSw; (try dsimp only at hSw); (have t0 := (h7.below hSw h7.lt).at_ 0 (.int .i64 t.p1) rfl; have t1 := (h7.below hSw h7.lt).at_ 1 (.int .i64 t.p2) rfl; have s0 := (hSw.cell (p := ⟨q, off + k * 2, none⟩) hbl).trans e0; have s1 := (hSw.cell (p := ⟨q, off + k * 2 + 1, none⟩) hbl).trans e1); go_simp <;> with_reducible rfl)
      (try simp only [Act.put, aT, aZ, aS])
      refine wpAnyH_take (i := 8) (v := ?_) rfl (by kernel_rfl) (by kernel_rfl) (by kernel_rfl) (fun _ _ _ h => by cases h.1) (.inl ⟨by rfl, ?_⟩) (by assumption) ?_
      rotate_left
      · (intro w' hSw; (try dsimp only at hSw); (have t0 := (h7.below hSw h7.lt).at_ 0 (.int .i64 t.p1) rfl; have t1 := (h7.below hSw h7.lt).at_ 1 (.int .i64 t.p2) rfl; have s0 := (hSw.cell (p := ⟨q, off + k * 2, none⟩) hbl).trans e0; have s1 := (hSw.cell (p := ⟨q, off + k * 2 + 1, none⟩) hbl).trans e1); go_simp <;> with_reducible rfl)
      (try simp only [Act.put, aT, aZ, aS])
      refine wpAnyH_take (i := 9) (v := ?_) rfl (by kernel_rfl) (by kernel_rfl) (by kernel_rfl) (fun _ _ _ h => by cases h.1) (.inl ⟨by rfl, ?_⟩) (by assumption) ?_
      rotate_left
      · (intro w' hSw; (try dsimp only at hSw); (have t0 := (h7.below hSw h7.lt).at_ 0 (.int .i64 t.p1) rfl; have t1 := (h7.below hSw h7.lt).at_ 1 (.int .i64 t.p2) rfl; have s0 := (hSw.cell (p := ⟨q, off + k * 2, none⟩) hbl).trans e0; have s1 := (hSw.cell (p := ⟨q, off + k * 2 + 1, none⟩) hbl).trans e1); go_simp <;> with_reducible rfl)
      (try simp only [Act.put, aT, aZ, aS])
      refine wpAnyH_take (i := 10) (v := ?_) rfl (by kernel_rfl) (by kernel_rfl) (by kernel_rfl) (fun _ _ _ h => by cases h.1) (.inl ⟨by rfl, ?_⟩) (by assumption) ?_
      rotate_left
      · (intro w' hSw; (try dsimp only at hSw); (have t0 := (h7.below hSw h7.lt).at_ 0 (.int .i64 t.p1) rfl; have t1 := (h7.below hSw h7.lt).at_ 1 (.int .i64 t.p2) rfl; have s0 := (hSw.cell (p := ⟨q, off + k * 2, none⟩) hbl).trans e0; have s1 := (hSw.cell (p := ⟨q, off + k * 2 + 1, none⟩) hbl).trans e1); go_simp <;> with_reducible rfl)
      (try simp only [Act.put, aT, aZ, aS])
      refine wpAnyH_take (i := 11) (v := ?_) rfl (by kernel_rfl) (by kernel_rfl) (by kernel_rfl) (fun _ _ _ h => by cases h.1) (.inl ⟨by rfl, ?_⟩) (by assumption) ?_
      rotate_left
      · (intro w' hSw; (try dsimp only at hSw); (have t0 := (h7.below hSw h7.lt).at_ 0 (.int .i64 t.p1) rfl; have t1 := (h7.below hSw h7.lt).at_ 1 (.int .i64 t.p2) rfl; have s0 := (hSw.cell (p := ⟨q, off + k * 2, none⟩) hbl).trans e0; have s1 := (hSw.cell (p := ⟨q, off + k * 2 + 1, none⟩) hbl).trans e1); go_simp <;> with_reducible rfl)
      (try simp only [Act.put, aT, aZ, aS])
      refine wpAnyH_take (i := 12) (v := ?_) rfl (by kernel_rfl) (by kernel_rfl) (by kernel_rfl) (fun _ _ _ h => by cases h.1) (.inl ⟨by rfl, ?_⟩) (by assumption) ?_
      rotate_left
      · (intro w' hSw; (try dsimp only at hSw); (have t0 := (h7.below hSw h7.lt).at_ 0 (.int .i64 t.p1) rfl; have t1 := (h7.below hSw h7.lt).at_ 1 (.int .i64 t.p2) rfl; have s0 := (hSw.cell (p := ⟨q, off + k * 2, none⟩) hbl).trans e0; have s1 := (hSw.cell (p := ⟨q, off + k * 2 + 1, none⟩) hbl).trans e1); go_simp <;> with_reducible rfl)
      (try simp only [Act.put, aT, aZ, aS])
      refine wpAnyH_take (i := 13) (v := ?_) rfl (by kernel_rfl) (by kernel_rfl) (by kernel_rfl) (fun _ _ _ h => by cases h.1) (.inl ⟨by rfl, ?_⟩) (by assumption) ?_
      rotate_left
      · (intro w' hSw; (try dsimp only at hSw); (have t0 := (h7.below hSw h7.lt).at_ 0 (.int .i64 t.p1) rfl; have t1 := (h7.below hSw h7.lt).at_ 1 (.int .i64 t.p2) rfl; have s0 := (hSw.cell (p := ⟨q, off + k * 2, none⟩) hbl).trans e0; have s1 := (hSw.cell (p := ⟨q, off + k * 2 + 1, none⟩) hbl).trans e1); go_simp <;> with_reducible rfl)
      (try simp only [Act.put, aT, aZ, aS])
      refine wpAnyH_take (i := 14) (v := ?_) rfl (by kernel_rfl) (by kernel_rfl) (by kernel_rfl) (fun _ _ _ h => by cases h.1) (.inl ⟨by rfl, ?_⟩) (by assumption) ?_
      rotate_left
      · (intro w' hSw; (try dsimp only at hSw); (have t0 := (h7.below hSw h7.lt).at_ 0 (.int .i64 t.p1) rfl; have t1 := (h7.below hSw h7.lt).at_ 1 (.int .i64 t.p2) rfl; have s0 := (hSw.cell (p := ⟨q, off + k * 2, none⟩) hbl).trans e0; have s1 := (hSw.cell (p := ⟨q, off + k * 2 + 1, none⟩) hbl).trans e1); go_simp <;> with_reducible rfl)
      (try simp only [Act.put, aT, aZ, aS])
      refine wpAnyH_take (i := 15) (v := ?_) rfl (by kernel_rfl) (by kernel_rfl) (by kernel_rfl) (fun _ _ _ h => by cases h.1) (.inl ⟨by rfl, ?_⟩) (by assumption) ?_
      rotate_left
      · (intro w' hSw; (try dsimp only at hSw); (have t0 := (h7.below hSw h7.lt).at_ 0 (.int .i64 t.p1) rfl; have t1 := (h7.below hSw h7.lt).at_ 1 (.int .i64 t.p2) rfl; have s0 := (hSw.cell (p := ⟨q, off + k * 2, none⟩) hbl).trans e0; have s1 := (hSw.cell (p := ⟨q, off + k * 2 + 1, none⟩) hbl).trans e1); go_simp <;> with_reducible rfl)
      (try simp only [Act.put, aT, aZ, aS])
      refine wpAnyH_take (i := 16) (v := ?_) rfl (by kernel_rfl) (by kernel_rfl) (by kernel_rfl) (fun _ _ _ h => by cases h.1) (.inl ⟨by rfl, ?_⟩) (by assumption) ?_
      rotate_left
      · (intro w' hSw; (try dsimp only at hSw); (have t0 := (h7.below hSw h7.lt).at_ 0 (.int .i64 t.p1) rfl; have t1 := (h7.below hSw h7.lt).at_ 1 (.int .i64 t.p2) rfl; have s0 := (hSw.cell (p := ⟨q, off + k * 2, none⟩) hbl).trans e0; have s1 := (hSw.cell (p := ⟨q, off + k * 2 + 1, none⟩) hbl).trans e1); go_simp <;> with_reducible rfl)
      (try simp only [Act.put, aT, aZ, aS])
      refine wpAnyH_take (i := 17) (v := ?_) rfl (by kernel_rfl) (by kernel_rfl) (by kernel_rfl) (fun _ _ _ h => by cases h.1) (.inl ⟨by rfl, ?_⟩) (by assumption) ?_
      rotate_left
      · (intro w' hSw; (try dsimp only at hSw); (have t0 := (h7.below hSw h7.lt).at_ 0 (.int .i64 t.p1) rfl; have t1 := (h7.below hSw h7.lt).at_ 1 (.int .i64 t.p2) rfl; have s0 := (hSw.cell (p := ⟨q, off + k * 2, none⟩) hbl).trans e0; have s1 := (hSw.cell (p := ⟨q, off + k * 2 + 1, none⟩) hbl).trans e1); go_simp <;> with_reducible rfl)
      (try simp only [Act.put, aT, aZ, aS])
      refine wpAnyH_take (i := 18) (v := ?_) rfl (by kernel_rfl) (by kernel_rfl) (by kernel_rfl) (fun _ _ _ h => by cases h.1) (.inl ⟨by rfl, ?_⟩) (by assumption) ?_
      rotate_left
      · (intro w' hSw; (try dsimp only at hSw); (have t0 := (h7.below hSw h7.lt).at_ 0 (.int .i64 t.p1) rfl; have t1 := (h7.below hSw h7.lt).at_ 1 (.int .i64 t.p2) rfl; have s0 := (hSw.cell (p := ⟨q, off + k * 2, none⟩) hbl).trans e0; have s1 := (hSw.cell (p := ⟨q, off + k * 2 + 1, none⟩) hbl).trans e1); go_simp <;> with_reducible rfl)
      (try simp only [Act.put, aT, aZ, aS])
      refine wpAnyH_take (i := 19) (v := ?_) rfl (by kernel_rfl) (by kernel_rfl) (by kernel_rfl) (fun _ _ _ h => by cases h.1) (.inl ⟨by rfl, ?_⟩) (by assumption) ?_
      rotate_left
      · (intro w' hSw; (try dsimp only at hSw); (have t0 := (h7.below hSw h7.lt).at_ 0 (.int .i64 t.p1) rfl; have t1 := (h7.below hSw h7.lt).at_ 1 (.int .i64 t.p2) rfl; have s0 := (hSw.cell (p := ⟨q, off + k * 2, none⟩) hbl).trans e0; have s1 := (hSw.cell (p := ⟨q, off + k * 2 + 1, none⟩) hbl).trans e1); go_simp <;> with_reducible rfl)
      (try simp only [Act.put, aT, aZ, aS])
      refine wpAnyH_take (i := 20) (v := ?_) rfl (by kernel_rfl) (by kernel_rfl) (by kernel_rfl) (fun _ _ _ h => by cases h.1) (.inl ⟨by rfl, ?_⟩) (by assumption) ?_
      rotate_left
      · (intro w' hSw; (try dsimp only at hSw); (have t0 := (h7.below hSw h7.lt).at_ 0 (.int .i64 t.p1) rfl; have t1 := (h7.below hSw h7.lt).at_ 1 (.int .i64 t.p2) rfl; have s0 := (hSw.cell (p := ⟨q, off + k * 2, none⟩) hbl).trans e0; have s1 := (hSw.cell (p := ⟨q, off + k * 2 + 1, none⟩) hbl).trans e1); go_simp <;> with_reducible rfl)
      (try simp only [Act.put, aT, aZ, aS])
      refine wpAnyH_ready (rs := [21]) (by kernel_rfl) (by simp) ?_
      refine AllReadyH.cons rfl (fun K hK => ?_) ?_
      · go_simp
        refine hK.out _ _ hB (fun hS3 => ?_)
        clear hK K
        (try simp only [Act.put, aT, aZ, aS])
        refine wpAnyH_done (by kernel_rfl) ?_ _
        refine ⟨rfl, _, _, _, _, _, _, _, _, _, _, _, _, _, _, _, _, _, _, _, _, _, _, rfl, ?_, hB⟩
        unfold worstStep
        rw [mx_swap]
        unfold mx
        (repeat' split) <;> omega
      exact AllReadyH.nil
    · obtain rfl : k = k8 := by omega
      have HBB := hidMk hB
      clear hB
      have e : (conds J.sh).take k = conds J.sh := by rw [Hm.out]; exact List.take_length
      rw [e, ← HV.out]
      go_wp2_with fail
      rw [worest4_eq]
      go_wp2_with fail
      refine bodyPost_ret (v := .tuple #[.int .i64 V, .int .i64 0]) (by simp [results, Try.results25, go_sem]) rfl ⟨rfl, HB0.out.trans (HBB.out.mono HB0.out.size)⟩
set_option maxHeartbeats 4000000 in
set_option maxRecDepth 1000000 in
theorem wopart2 {w0 w1 : World} {g0 : Nat} {J : Jb} {a : Option Addr} {n c : Nat} {b : Option Addr} {m d : Nat} {l : List Int} {t : Tg} {V : Int} {u0 u3 u4 u5 u6 u7 u8 u9 u10 u11 u12 u13 u14 u15 u16 u17 u18 u19 u20 u21 u22 u23 u24 u25 u26 u27 u28 u29 u30 u31 u32 u33 u34 u35 u36 u37 u38 u39 u40 u41 u42 u43 u44 u45 u46 u47 u48 u49 : Value} (hs : WoS w0 w1 g0 J a n c b m l) (ht : t = afterS J J.tg l) (hT : t.In 200) (hV : V = (conds J.sh).foldl (worstStep t) 0) : Code.wp Try.prog worest2 (QO V w0) ⟨#[u0, (.slice b m d), (.pointer (some ⟨g0, 0, none⟩)), u3, u4, u5, u6, u7, u8, u9, u10, u11, u12, u13, u14, u15, u16, u17, u18, u19, u20, u21, u22, u23, u24, u25, u26, u27, u28, u29, u30, u31, u32, u33, u34, u35, u36, u37, u38, u39, u40, u41, u42, u43, u44, u45, u46, u47, u48, u49], []⟩ w1 := by
  rw [worest2_eq]
  have HV := hidMk hV
  have HTT := hidMk ht
  have HT := hidMk hT
  have HS := hidMk hs
  have hn4 : n ≤ 4 := by have := hs.inn.len; have := hs.en; omega
  clear hs hV ht hT
  refine wp_seq_k fun K0 hK0 => ?_
  refine region_via (R := fun a_ e a' w' => e = .normal ∧ ∃ (v17 v18 v19 v20 v21 : Value) (g7 : Nat) (sa : Option Addr) (sc : Nat), a' = ((((((((a_.put (some 17) v17).put (some 18) v18).put (some 19) v19).put (some 20) v20).put (some 21) v21).put (some 7) (.pointer (some ⟨g7, 0, none⟩))).put (some 8) (.slice sa (conds J.sh).length sc)).put (some 9) (.int .i64 0)) ∧ Below w1.heap.size w1 w' ∧ Bk w' g7 25 #[.int .i64 t.p1, .int .i64 t.p2, .int .i64 t.t1, .int .i64 t.t2, .int .i64 t.r1, .int .i64 t.r2] ∧ Rg w' w'.heap.size sa (conds J.sh)) ?_ ?_
  rotate_left
  · rintro e a' w' ⟨rfl, v17, v18, v19, v20, v21, g7, sa, sc, rfl, hB, hx, hr⟩
    refine hK0 _ _ ?_
    simp only [Act.put, aT, aZ, aS]
    obtain ⟨c0, hc0⟩ := conds_0 J.sh
    obtain ⟨q, off, rfl, _⟩ := hr 0 c0 hc0
    exact wopart3 (HS.out.b0.trans (hB.mono HS.out.b0.size)) HS.out.inn HT.out HV.out hx hr rfl
  have hBW : Below w1.heap.size w1 w1.drew := (Below.refl _ _).drew
  refine wp_region_held_drew (S := fun w' => Below w1.heap.size w1 w') (by kernel_rfl) hBW (fun hS0 => ?_)
  generalize hWd : w1.drew = wd at hS0 hBW ⊢
  clear hWd
  refine wpAnyH_take (i := 0) rfl (by kernel_rfl) (by kernel_rfl) (by kernel_rfl) (fun _ _ _ h => by cases h.1) (yields_row (by rfl) 30 _ rfl g0 (jobC J (.slice a n c)) rfl 30 (fun w hw => HS.out.job.below hw HS.out.job.lt) Try.underlying30 szJob) (by assumption) ?_
  (try simp only [Act.put, aT, aZ, aS])
  refine wpAnyH_take (i := 1) (v := ?_) rfl (by kernel_rfl) (by kernel_rfl) (by kernel_rfl) (fun _ _ _ h => by cases h.1) (.inl ⟨by rfl, ?_⟩) (by assumption) ?_
  rotate_left
  · (intro w' hSw; (try dsimp only at hSw); skip; go_simp <;> with_reducible rfl)
  (try simp only [Act.put, aT, aZ, aS])
  refine wpAnyH_take (i := 3) rfl (by kernel_rfl) (by kernel_rfl) (by kernel_rfl) (fun _ _ _ h => by cases h.1) (yields_row (by rfl) 30 _ rfl g0 (jobC J (.slice a n c)) rfl 30 (fun w hw => HS.out.job.below hw HS.out.job.lt) Try.underlying30 szJob) (by assumption) ?_
  (try simp only [Act.put, aT, aZ, aS])
  refine wpAnyH_ready (rs := [2, 5]) (by kernel_rfl) (by simp) ?_
  refine AllReadyH.cons rfl (fun K hK => ?_) ?_
  · go_simp
    go_at_call 58
    refine (refAfter_any J a n c b m d l _ HS.out.inn HS.out.em HS.out.m6 HS.out.kd (HS.out.is.up hBW)).mono ?_
    rintro e w2 ⟨rfl, hb2⟩
    rw [← HTT.out]
    have hB_ := hBW.trans (hb2.mono hBW.size)
    clear hBW hb2
    have hBW := hB_
    clear hB_
    go_wp2_with fail
    refine hK.out _ _ hBW (fun _ => ?_)
    clear hK K
    (try simp only [Act.put, aT, aZ, aS])
    refine wpAnyH_ready (rs := [4, 5]) (by kernel_rfl) (by simp) ?_
    refine AllReadyH.cons rfl (fun K hK => ?_) ?_
    · go_simp
      go_at_call 60
      refine (refShiftsB_any J w1.heap.size a n c _ HS.out.en hn4 (HS.out.rg.up hBW) (HS.out.rg.below hBW)).mono ?_
      rintro e w4 ⟨sa, sc, rfl, hsl, hb4, hap⟩
      have hB_ := hBW.trans (hb4.mono hBW.size)
      clear hBW hb4 hap
      have hBW := hB_
      clear hB_
      go_wp2_with fail
      refine hK.out _ _ hBW (fun _ => ?_)
      clear hK K
      (try simp only [Act.put, aT, aZ, aS])
      refine wpAnyH_ready (rs := [5]) (by kernel_rfl) (by simp) ?_
      refine AllReadyH.cons rfl (fun K hK => ?_) ?_
      · have hx0 : Bk (w4.alloc (.cells #[.int .i64 0, .int .i64 0, .int .i64 0, .int .i64 0, .int .i64 0, .int .i64 0] 25)) w4.heap.size 25 #[.int .i64 0, .int .i64 0, .int .i64 0, .int .i64 0, .int .i64 0, .int .i64 0] := Bk.new _ _ _
        have hgl : w1.heap.size ≤ w4.heap.size := hBW.size
        have hB_ : Below w1.heap.size w1 (w4.alloc (.cells #[.int .i64 0, .int .i64 0, .int .i64 0, .int .i64 0, .int .i64 0, .int .i64 0] 25)) := hBW.alloc hBW.size _
        have hne : ∀ q off, sa = some ⟨q, off, none⟩ → q ≠ w4.heap.size := fun q off e hq => by
          obtain ⟨c0, hc0⟩ := conds_0 J.sh
          obtain ⟨q', off', e', hq', _⟩ := hsl 0 c0 hc0
          rw [e'] at e
          cases e
          omega
        have hs_ := hsl.up ((Below.refl _ _).alloc (Nat.le_refl _) (.cells #[.int .i64 0, .int .i64 0, .int .i64 0, .int .i64 0, .int .i64 0, .int .i64 0] 25))
        clear hsl
        have hsl := hs_
        clear hs_
        go_simp
        refine hK.out _ _ hB_ (fun _ => ?_)
        clear hBW
        generalize hW_ : w4.alloc (.cells #[.int .i64 0, .int .i64 0, .int .i64 0, .int .i64 0, .int .i64 0, .int .i64 0] 25) = wA at hx0 hB_ hsl ⊢
        clear hW_
        generalize hG_ : w4.heap.size = gA at hx0 hgl hne ⊢
        clear hG_
        have hBW := hB_
        clear hB_
        clear hK K
        (try simp only [Act.put, aT, aZ, aS])
        refine wpAnyH_ready (rs := [6]) (by kernel_rfl) (by simp) ?_
        refine AllReadyH.cons rfl (fun K hK => ?_) ?_
        · have z0 := hx0.at_ 0 (.int .i64 0) rfl
          have f0 := hx0.free 0
          have z1 := hx0.at_ 1 (.int .i64 0) rfl
          have f1 := hx0.free 1
          have z2 := hx0.at_ 2 (.int .i64 0) rfl
          have f2 := hx0.free 2
          have z3 := hx0.at_ 3 (.int .i64 0) rfl
          have f3 := hx0.free 3
          have z4 := hx0.at_ 4 (.int .i64 0) rfl
          have f4 := hx0.free 4
          have z5 := hx0.at_ 5 (.int .i64 0) rfl
          have f5 := hx0.free 5
          have hx1 := ((((((hx0.put 0 (.int .i64 t.p1)).put 1 (.int .i64 t.p2)).put 2 (.int .i64 t.t1)).put 3 (.int .i64 t.t2)).put 4 (.int .i64 t.r1)).put 5 (.int .i64 t.r2))
          have hB1 := ((((((hBW.setCell (p := ⟨gA, 0, none⟩) hgl (.int .i64 t.p1)).setCell (p := ⟨gA, 1, none⟩) hgl (.int .i64 t.p2)).setCell (p := ⟨gA, 2, none⟩) hgl (.int .i64 t.t1)).setCell (p := ⟨gA, 3, none⟩) hgl (.int .i64 t.t2)).setCell (p := ⟨gA, 4, none⟩) hgl (.int .i64 t.r1)).setCell (p := ⟨gA, 5, none⟩) hgl (.int .i64 t.r2))
          have hs1 := (Rg.put (Rg.put (Rg.put (Rg.put (Rg.put (Rg.put hsl hne (i := 0) (v := .int .i64 t.p1)) hne (i := 1) (v := .int .i64 t.p2)) hne (i := 2) (v := .int .i64 t.t1)) hne (i := 3) (v := .int .i64 t.t2)) hne (i := 4) (v := .int .i64 t.r1)) hne (i := 5) (v := .int .i64 t.r2))
          simp only [tgV, List.setIfInBounds_toArray, List.set_cons_zero, List.set_cons_succ] at hx1 ⊢
          go_simp
          refine hK.out _ _ hB1 (fun _ => ?_)
          clear hK K
          (try simp only [Act.put, aT, aZ, aS])
          refine wpAnyH_ready (rs := [7]) (by kernel_rfl) (by simp) ?_
          refine AllReadyH.cons rfl (fun K hK => ?_) ?_
          · go_simp
            refine hK.out _ _ hB1 (fun _ => ?_)
            clear hK K
            (try simp only [Act.put, aT, aZ, aS])
            refine wpAnyH_ready (rs := [8]) (by kernel_rfl) (by simp) ?_
            refine AllReadyH.cons rfl (fun K hK => ?_) ?_
            · go_simp
              refine hK.out _ _ hB1 (fun _ => ?_)
              clear hK K
              (try simp only [Act.put, aT, aZ, aS])
              refine wpAnyH_done (by kernel_rfl) ?_ _
              exact ⟨rfl, _, _, _, _, _, gA, sa, sc, rfl, hB1, hx1, hs1.keep (by simp) (fun _ _ => rfl)⟩
            exact AllReadyH.nil
          exact AllReadyH.nil
        exact AllReadyH.nil
      exact AllReadyH.nil
    refine AllReadyH.cons rfl (fun K hK => ?_) ?_
    · have hx0 : Bk (w2.alloc (.cells #[.int .i64 0, .int .i64 0, .int .i64 0, .int .i64 0, .int .i64 0, .int .i64 0] 25)) w2.heap.size 25 #[.int .i64 0, .int .i64 0, .int .i64 0, .int .i64 0, .int .i64 0, .int .i64 0] := Bk.new _ _ _
      have hgl : w1.heap.size ≤ w2.heap.size := hBW.size
      have hB_ : Below w1.heap.size w1 (w2.alloc (.cells #[.int .i64 0, .int .i64 0, .int .i64 0, .int .i64 0, .int .i64 0, .int .i64 0] 25)) := hBW.alloc hBW.size _
      go_simp
      refine hK.out _ _ hB_ (fun _ => ?_)
      clear hBW
      generalize hW_ : w2.alloc (.cells #[.int .i64 0, .int .i64 0, .int .i64 0, .int .i64 0, .int .i64 0, .int .i64 0] 25) = wA at hx0 hB_ ⊢
      clear hW_
      generalize hG_ : w2.heap.size = gA at hx0 hgl ⊢
      clear hG_
      have hBW := hB_
      clear hB_
      clear hK K
      (try simp only [Act.put, aT, aZ, aS])
      refine wpAnyH_ready (rs := [4]) (by kernel_rfl) (by simp) ?_
      refine AllReadyH.cons rfl (fun K hK => ?_) ?_
      · go_simp
        go_at_call 60
        refine (refShiftsB_any J w1.heap.size a n c _ HS.out.en hn4 (HS.out.rg.up hBW) (HS.out.rg.below hBW)).mono ?_
        rintro e w4 ⟨sa, sc, rfl, hsl, hb4, hap⟩
        have hB_ := hBW.trans (hb4.mono hBW.size)
        have hne : ∀ q off, sa = some ⟨q, off, none⟩ → q ≠ gA := fun q off e hq => by
          have h1 := hap q off e
          have h2 := hx0.lt
          omega
        have hx_ := hx0.below hb4 hx0.lt
        clear hx0
        have hx0 := hx_
        clear hx_
        clear hBW hb4 hap
        have hBW := hB_
        clear hB_
        go_wp2_with fail
        refine hK.out _ _ hBW (fun _ => ?_)
        clear hK K
        (try simp only [Act.put, aT, aZ, aS])
        refine wpAnyH_ready (rs := [6]) (by kernel_rfl) (by simp) ?_
        refine AllReadyH.cons rfl (fun K hK => ?_) ?_
        · have z0 := hx0.at_ 0 (.int .i64 0) rfl
          have f0 := hx0.free 0
          have z1 := hx0.at_ 1 (.int .i64 0) rfl
          have f1 := hx0.free 1
          have z2 := hx0.at_ 2 (.int .i64 0) rfl
          have f2 := hx0.free 2
          have z3 := hx0.at_ 3 (.int .i64 0) rfl
          have f3 := hx0.free 3
          have z4 := hx0.at_ 4 (.int .i64 0) rfl
          have f4 := hx0.free 4
          have z5 := hx0.at_ 5 (.int .i64 0) rfl
          have f5 := hx0.free 5
          have hx1 := ((((((hx0.put 0 (.int .i64 t.p1)).put 1 (.int .i64 t.p2)).put 2 (.int .i64 t.t1)).put 3 (.int .i64 t.t2)).put 4 (.int .i64 t.r1)).put 5 (.int .i64 t.r2))
          have hB1 := ((((((hBW.setCell (p := ⟨gA, 0, none⟩) hgl (.int .i64 t.p1)).setCell (p := ⟨gA, 1, none⟩) hgl (.int .i64 t.p2)).setCell (p := ⟨gA, 2, none⟩) hgl (.int .i64 t.t1)).setCell (p := ⟨gA, 3, none⟩) hgl (.int .i64 t.t2)).setCell (p := ⟨gA, 4, none⟩) hgl (.int .i64 t.r1)).setCell (p := ⟨gA, 5, none⟩) hgl (.int .i64 t.r2))
          have hs1 := (Rg.put (Rg.put (Rg.put (Rg.put (Rg.put (Rg.put hsl hne (i := 0) (v := .int .i64 t.p1)) hne (i := 1) (v := .int .i64 t.p2)) hne (i := 2) (v := .int .i64 t.t1)) hne (i := 3) (v := .int .i64 t.t2)) hne (i := 4) (v := .int .i64 t.r1)) hne (i := 5) (v := .int .i64 t.r2))
          simp only [tgV, List.setIfInBounds_toArray, List.set_cons_zero, List.set_cons_succ] at hx1 ⊢
          go_simp
          refine hK.out _ _ hB1 (fun _ => ?_)
          clear hK K
          (try simp only [Act.put, aT, aZ, aS])
          refine wpAnyH_ready (rs := [7]) (by kernel_rfl) (by simp) ?_
          refine AllReadyH.cons rfl (fun K hK => ?_) ?_
          · go_simp
            refine hK.out _ _ hB1 (fun _ => ?_)
            clear hK K
            (try simp only [Act.put, aT, aZ, aS])
            refine wpAnyH_ready (rs := [8]) (by kernel_rfl) (by simp) ?_
            refine AllReadyH.cons rfl (fun K hK => ?_) ?_
            · go_simp
              refine hK.out _ _ hB1 (fun _ => ?_)
              clear hK K
              (try simp only [Act.put, aT, aZ, aS])
              refine wpAnyH_done (by kernel_rfl) ?_ _
              exact ⟨rfl, _, _, _, _, _, gA, sa, sc, rfl, hB1, hx1, hs1.keep (by simp) (fun _ _ => rfl)⟩
            exact AllReadyH.nil
          exact AllReadyH.nil
        exact AllReadyH.nil
      exact AllReadyH.nil
    exact AllReadyH.nil
  refine AllReadyH.cons rfl (fun K hK => ?_) ?_
  · have hx0 : Bk (wd.alloc (.cells #[.int .i64 0, .int .i64 0, .int .i64 0, .int .i64 0, .int .i64 0, .int .i64 0] 25)) wd.heap.size 25 #[.int .i64 0, .int .i64 0, .int .i64 0, .int .i64 0, .int .i64 0, .int .i64 0] := Bk.new _ _ _
    have hgl : w1.heap.size ≤ wd.heap.size := hBW.size
    have hB_ : Below w1.heap.size w1 (wd.alloc (.cells #[.int .i64 0, .int .i64 0, .int .i64 0, .int .i64 0, .int .i64 0, .int .i64 0] 25)) := hBW.alloc hBW.size _
    go_simp
    refine hK.out _ _ hB_ (fun _ => ?_)
    clear hBW
    generalize hW_ : wd.alloc (.cells #[.int .i64 0, .int .i64 0, .int .i64 0, .int .i64 0, .int .i64 0, .int .i64 0] 25) = wA at hx0 hB_ ⊢
    clear hW_
    generalize hG_ : wd.heap.size = gA at hx0 hgl ⊢
    clear hG_
    have hBW := hB_
    clear hB_
    clear hK K
    (try simp only [Act.put, aT, aZ, aS])
    refine wpAnyH_ready (rs := [2]) (by kernel_rfl) (by simp) ?_
    refine AllReadyH.cons rfl (fun K hK => ?_) ?_
    · go_simp
      go_at_call 58
      refine (refAfter_any J a n c b m d l _ HS.out.inn HS.out.em HS.out.m6 HS.out.kd (HS.out.is.up hBW)).mono ?_
      rintro e w2 ⟨rfl, hb2⟩
      rw [← HTT.out]
      have hB_ := hBW.trans (hb2.mono hBW.size)
      have hx_ := hx0.below hb2 hx0.lt
      have hg_ := Nat.lt_of_lt_of_le hx0.lt hb2.size
      clear hx0
      have hx0 := hx_
      clear hx_
      clear hBW hb2
      have hBW := hB_
      clear hB_
      go_wp2_with fail
      refine hK.out _ _ hBW (fun _ => ?_)
      clear hK K
      (try simp only [Act.put, aT, aZ, aS])
      refine wpAnyH_ready (rs := [4]) (by kernel_rfl) (by simp) ?_
      refine AllReadyH.cons rfl (fun K hK => ?_) ?_
      · go_simp
        go_at_call 60
        refine (refShiftsB_any J w1.heap.size a n c _ HS.out.en hn4 (HS.out.rg.up hBW) (HS.out.rg.below hBW)).mono ?_
        rintro e w4 ⟨sa, sc, rfl, hsl, hb4, hap⟩
        have hB_ := hBW.trans (hb4.mono hBW.size)
        have hne : ∀ q off, sa = some ⟨q, off, none⟩ → q ≠ gA := fun q off e hq => by
          have h1 := hap q off e
          have h2 := hx0.lt
          omega
        have hx_ := hx0.below hb4 hx0.lt
        clear hx0
        have hx0 := hx_
        clear hx_
        clear hBW hb4 hap
        have hBW := hB_
        clear hB_
        go_wp2_with fail
        refine hK.out _ _ hBW (fun _ => ?_)
        clear hK K
        (try simp only [Act.put, aT, aZ, aS])
        refine wpAnyH_ready (rs := [6]) (by kernel_rfl) (by simp) ?_
        refine AllReadyH.cons rfl (fun K hK => ?_) ?_
        · have z0 := hx0.at_ 0 (.int .i64 0) rfl
          have f0 := hx0.free 0
          have z1 := hx0.at_ 1 (.int .i64 0) rfl
          have f1 := hx0.free 1
          have z2 := hx0.at_ 2 (.int .i64 0) rfl
          have f2 := hx0.free 2
          have z3 := hx0.at_ 3 (.int .i64 0) rfl
          have f3 := hx0.free 3
          have z4 := hx0.at_ 4 (.int .i64 0) rfl
          have f4 := hx0.free 4
          have z5 := hx0.at_ 5 (.int .i64 0) rfl
          have f5 := hx0.free 5
          have hx1 := ((((((hx0.put 0 (.int .i64 t.p1)).put 1 (.int .i64 t.p2)).put 2 (.int .i64 t.t1)).put 3 (.int .i64 t.t2)).put 4 (.int .i64 t.r1)).put 5 (.int .i64 t.r2))
          have hB1 := ((((((hBW.setCell (p := ⟨gA, 0, none⟩) hgl (.int .i64 t.p1)).setCell (p := ⟨gA, 1, none⟩) hgl (.int .i64 t.p2)).setCell (p := ⟨gA, 2, none⟩) hgl (.int .i64 t.t1)).setCell (p := ⟨gA, 3, none⟩) hgl (.int .i64 t.t2)).setCell (p := ⟨gA, 4, none⟩) hgl (.int .i64 t.r1)).setCell (p := ⟨gA, 5, none⟩) hgl (.int .i64 t.r2))
          have hs1 := (Rg.put (Rg.put (Rg.put (Rg.put (Rg.put (Rg.put hsl hne (i := 0) (v := .int .i64 t.p1)) hne (i := 1) (v := .int .i64 t.p2)) hne (i := 2) (v := .int .i64 t.t1)) hne (i := 3) (v := .int .i64 t.t2)) hne (i := 4) (v := .int .i64 t.r1)) hne (i := 5) (v := .int .i64 t.r2))
          simp only [tgV, List.setIfInBounds_toArray, List.set_cons_zero, List.set_cons_succ] at hx1 ⊢
          go_simp
          refine hK.out _ _ hB1 (fun _ => ?_)
          clear hK K
          (try simp only [Act.put, aT, aZ, aS])
          refine wpAnyH_ready (rs := [7]) (by kernel_rfl) (by simp) ?_
          refine AllReadyH.cons rfl (fun K hK => ?_) ?_
          · go_simp
            refine hK.out _ _ hB1 (fun _ => ?_)
            clear hK K
            (try simp only [Act.put, aT, aZ, aS])
            refine wpAnyH_ready (rs := [8]) (by kernel_rfl) (by simp) ?_
            refine AllReadyH.cons rfl (fun K hK => ?_) ?_
            · go_simp
              refine hK.out _ _ hB1 (fun _ => ?_)
              clear hK K
              (try simp only [Act.put, aT, aZ, aS])
              refine wpAnyH_done (by kernel_rfl) ?_ _
              exact ⟨rfl, _, _, _, _, _, gA, sa, sc, rfl, hB1, hx1, hs1.keep (by simp) (fun _ _ => rfl)⟩
            exact AllReadyH.nil
          exact AllReadyH.nil
        exact AllReadyH.nil
      exact AllReadyH.nil
    exact AllReadyH.nil
  exact AllReadyH.nil
set_option maxHeartbeats 2000000 in
set_option maxRecDepth 100000 in
theorem refWorst_any (J : Jb) (a : Option Addr) (n c : Nat) (b : Option Addr) (m d : Nat) (l : List Int) (w : World) (hn : n = J.sh.length) (hm : n ≤ 9223372036854775807) (h : Rg w w.heap.size a J.sh)
    (hmn : m = l.length) (hmm : m ≤ 9223372036854775807) (hl : Is w w.heap.size b l) :
    Calls Try.prog 25 #[.agg (jobC J (.slice a n c)), .slice b m d] w fun e w' => e = .returned (.tuple #[.int .i64 (worstX J l).1, .int .i64 (worstX J l).2]) ∧ Below w.heap.size w w' := by
  have Hn := hidMk hn
  have Hh := hidMk h
  have Hm := hidMk hmn
  have Hl := hidMk hl
  clear hn h hmn hl
  have b0 := Bk.new w 30 (jobC J (.slice a n c))
  have hW : Below w.heap.size w (w.alloc (.cells (jobC J (.slice a n c)) 30)) := (Below.refl _ _).alloc (Nat.le_refl _) _
  by_cases hc : filedE J l = 0
  · have hcb : (filedE J l != 0) = false := by simp [hc]
    have hok := filed_ok hc
    have hkd := hidMk (kindE_ok l (by have h2 := hc; unfold filedE strokesE at h2; rw [if_pos hok.1, if_neg (by omega)] at h2; exact h2))
    have HIN := hidMk ((check_ok hok.1).inn)
    have hm6 : m ≤ 6 := by rw [Hm.out]; exact hok.2
    have HV : Hid (worstX J l = (worstI (J.setTg (afterS J J.tg l)) (afterS J J.tg l), 0)) := by show worstX J l = _; unfold worstX; rw [if_pos hc]
    have HT : Hid ((afterS J J.tg l).In 200) := by
      show _
      refine (afterS_in J (HIN.out.mono (by decide)) l J.tg 100 HIN.out.tg).mono ?_
      have := Hm.out
      omega
    clear hc hok
    go_enter Try.func25, Try.ntmps25
    rw [HV.out]
    show Code.wp Try.prog wobody (QO (worstI (J.setTg (afterS J J.tg l)) (afterS J J.tg l)) w) _ _
    rw [wobody_eq]
    go_wp2_with fail
    rw [worest1_eq]
    go_wp2_with (refine wpList_load_row rfl 30 _ rfl w.heap.size rfl _ (jobC J (.slice a n c)) _ _ b0 Try.underlying30 rfl szJob ?_)
    refine (refStrokes_any J a n c b m d l _ Hn.out hm (Hh.out.up hW) Hm.out hmm (Hl.out.up hW)).mono ?_
    rintro e w1 ⟨rfl, hb⟩
    have hB1 := hW.trans (hb.mono hW.size)
    have k0 := b0.below hb b0.lt
    have HS : Hid (WoS w w1 w.heap.size J a n c b m l) := ⟨k0, hB1, (Hh.out.up hB1), Hl.out.up hB1, HIN.out.mono (by decide), Hn.out, Hm.out, hm6, hkd.out⟩
    clear hb b0 hW k0 hB1
    go_wp2_with fail
    exact wopart2 HS.out rfl HT.out rfl
  · have hcb : (filedE J l != 0) = true := by simpa using hc
    have HV : Hid (worstX J l = (0, filedE J l)) := by show worstX J l = _; unfold worstX; rw [if_neg hc]
    clear hc
    go_enter Try.func25, Try.ntmps25
    go_wp2_with (refine wpList_load_row rfl 30 _ rfl w.heap.size rfl _ (jobC J (.slice a n c)) _ _ b0 Try.underlying30 rfl szJob ?_)
    refine (refStrokes_any J a n c b m d l _ Hn.out hm (Hh.out.up hW) Hm.out hmm (Hl.out.up hW)).mono ?_
    rintro e w1 ⟨rfl, hb⟩
    have hB := hW.trans (hb.mono hW.size)
    clear hb b0 hW
    go_wp2
    refine bodyPost_ret (v := .tuple #[.int .i64 0, .int .i64 (filedE J l)]) (by simp [results, Try.results25, go_sem]) rfl ⟨by rw [HV.out], hB⟩
end Go.Proofs.Ytdficjnnlaicpaa
/- The contracts of reed.Worst, Spoiled and Fine on any jobs and strokes. -/
namespace Go.Proofs.Ytdficjnnlaicpaa
set_option linter.all false
open Go.RowKit
set_option maxHeartbeats 1000000 in
set_option maxRecDepth 100000 in
theorem worstF_any (J : Jb) (a : Option Addr) (n c : Nat) (b : Option Addr) (m d : Nat) (l : List Int) (w : World) (hn : n = J.sh.length) (hm : n ≤ 9223372036854775807) (h : Rg w w.heap.size a J.sh)
    (hmn : m = l.length) (hmm : m ≤ 9223372036854775807) (hl : Is w w.heap.size b l) :
    Calls Try.prog 24 #[.agg (jobC J (.slice a n c)), .slice b m d] w fun e w' => e = .returned (.tuple #[.int .i64 (worstX J l).1, .int .i64 (worstX J l).2]) ∧ Below w.heap.size w w' := by
  by_cases hc : filedE J l = 0
  · have HV : worstX J l = (worstI (J.setTg (afterS J J.tg l)) (afterS J J.tg l), 0) := by unfold worstX; rw [if_pos hc]
    rw [HV]
    exact worstL_ok J l hc a n c b m d w hn hm h hmn hmm hl
  · have HV : Hid (worstX J l = (0, filedE J l)) := by show worstX J l = _; unfold worstX; rw [if_neg hc]
    have hcb : (filedE J l != 0) = true := by simpa using hc
    have Hn := hidMk hn
    have Hh := hidMk h
    have Hm := hidMk hmn
    have Hl := hidMk hl
    have Hf := hidMk hc
    clear hn h hmn hl hc
    have b0 : Bk (w.alloc (.cells (jobC J (.slice a n c)) 30)) w.heap.size 30 (jobC J (.slice a n c)) := Bk.new w _ _
    have hW : Below w.heap.size w (w.alloc (.cells (jobC J (.slice a n c)) 30)) := (Below.refl _ _).alloc (Nat.le_refl _) _
    go_enter Try.func24, Try.ntmps24
    go_wp2_with (refine wpList_load_row rfl 30 _ rfl w.heap.size rfl _ (jobC J (.slice a n c)) _ _ b0 Try.underlying30 rfl szJob ?_)
    refine (filed_any J a n c b m d l _ Hn.out hm (Hh.out.up hW) Hm.out hmm (Hl.out.up hW)).mono ?_
    rintro e w1 ⟨he, hb1⟩
    rw [if_neg Hf.out] at he
    subst he
    have hz1 := hb1.size
    simp only [World.size_alloc] at hz1
    have hB1 : Below w.heap.size w w1 := hW.trans (hb1.mono (by simp))
    clear hb1 b0 hW
    go_wp2_with (first | (refine wpList_store_row rfl 85 _ _ rfl w1.heap.size (jobC zeroJ (.slice none 0 0)) rfl rfl _ _ (Bk.new _ _ _) szWork rfl (oneJob _ _ _ _) ?_; rw [World.setRow_alloc_new]))
    refine bodyPost_ret (v := .tuple #[.int .i64 0, .int .i64 (filedE J l)]) (by simp [results, Try.results24, go_sem]) rfl ⟨by rw [HV.out], ?_⟩
    first | exact hB1.alloc (by omega) _ | exact hB1
set_option maxHeartbeats 1000000 in
set_option maxRecDepth 100000 in
theorem spoiledF_any (J : Jb) (a : Option Addr) (n c : Nat) (b : Option Addr) (m d : Nat) (l : List Int) (w : World) (hn : n = J.sh.length) (hm : n ≤ 9223372036854775807) (h : Rg w w.heap.size a J.sh)
    (hmn : m = l.length) (hmm : m ≤ 9223372036854775807) (hl : Is w w.heap.size b l) :
    Calls Try.prog 26 #[.agg (jobC J (.slice a n c)), .slice b m d] w fun e w' => e = .returned (.tuple #[.int .i64 (spoilX J l).1, .int .i64 (spoilX J l).2]) ∧ Below w.heap.size w w' := by
  by_cases hc : filedE J l = 0
  · have HV : spoilX J l = (spoilI J.le (afterS J J.tg l), 0) := by unfold spoilX; rw [if_pos hc]
    rw [HV]
    exact spoiledL_ok J l hc a n c b m d w hn hm h hmn hmm hl
  · have HV : Hid (spoilX J l = (0, filedE J l)) := by show spoilX J l = _; unfold spoilX; rw [if_neg hc]
    have hcb : (filedE J l != 0) = true := by simpa using hc
    have Hn := hidMk hn
    have Hh := hidMk h
    have Hm := hidMk hmn
    have Hl := hidMk hl
    have Hf := hidMk hc
    clear hn h hmn hl hc
    have b0 : Bk (w.alloc (.cells (jobC J (.slice a n c)) 30)) w.heap.size 30 (jobC J (.slice a n c)) := Bk.new w _ _
    have hW : Below w.heap.size w (w.alloc (.cells (jobC J (.slice a n c)) 30)) := (Below.refl _ _).alloc (Nat.le_refl _) _
    go_enter Try.func26, Try.ntmps26
    go_wp2_with (refine wpList_load_row rfl 30 _ rfl w.heap.size rfl _ (jobC J (.slice a n c)) _ _ b0 Try.underlying30 rfl szJob ?_)
    refine (filed_any J a n c b m d l _ Hn.out hm (Hh.out.up hW) Hm.out hmm (Hl.out.up hW)).mono ?_
    rintro e w1 ⟨he, hb1⟩
    rw [if_neg Hf.out] at he
    subst he
    have hz1 := hb1.size
    simp only [World.size_alloc] at hz1
    have hB1 : Below w.heap.size w w1 := hW.trans (hb1.mono (by simp))
    clear hb1 b0 hW
    go_wp2_with (first | (refine wpList_store_row rfl 85 _ _ rfl w1.heap.size (jobC zeroJ (.slice none 0 0)) rfl rfl _ _ (Bk.new _ _ _) szWork rfl (oneJob _ _ _ _) ?_; rw [World.setRow_alloc_new]))
    refine bodyPost_ret (v := .tuple #[.int .i64 0, .int .i64 (filedE J l)]) (by simp [results, Try.results26, go_sem]) rfl ⟨by rw [HV.out], ?_⟩
    first | exact hB1.alloc (by omega) _ | exact hB1
set_option maxHeartbeats 1000000 in
set_option maxRecDepth 100000 in
theorem fineF_any (hfine : FineOK) (J : Jb) (a : Option Addr) (n c : Nat) (b : Option Addr) (m d : Nat) (l : List Int) (w : World) (hn : n = J.sh.length) (hm : n ≤ 9223372036854775807) (h : Rg w w.heap.size a J.sh)
    (hmn : m = l.length) (hmm : m ≤ 9223372036854775807) (hl : Is w w.heap.size b l) :
    Calls Try.prog 28 #[.agg (jobC J (.slice a n c)), .slice b m d] w fun e w' => e = .returned (.tuple #[.int .i64 (fineX J l).1, .int .i64 (fineX J l).2]) ∧ Below w.heap.size w w' := by
  by_cases hc : filedE J l = 0
  · have HV : fineX J l = (fineI J (afterS J J.tg l), 0) := by unfold fineX; rw [if_pos hc]
    rw [HV]
    exact fineL_ok hfine J l hc a n c b m d w hn hm h hmn hmm hl
  · have HV : Hid (fineX J l = (0, filedE J l)) := by show fineX J l = _; unfold fineX; rw [if_neg hc]
    have hcb : (filedE J l != 0) = true := by simpa using hc
    have Hn := hidMk hn
    have Hh := hidMk h
    have Hm := hidMk hmn
    have Hl := hidMk hl
    have Hf := hidMk hc
    clear hn h hmn hl hc
    have b0 : Bk (w.alloc (.cells (jobC J (.slice a n c)) 30)) w.heap.size 30 (jobC J (.slice a n c)) := Bk.new w _ _
    have hW : Below w.heap.size w (w.alloc (.cells (jobC J (.slice a n c)) 30)) := (Below.refl _ _).alloc (Nat.le_refl _) _
    go_enter Try.func28, Try.ntmps28
    go_wp2_with (refine wpList_load_row rfl 30 _ rfl w.heap.size rfl _ (jobC J (.slice a n c)) _ _ b0 Try.underlying30 rfl szJob ?_)
    refine (filed_any J a n c b m d l _ Hn.out hm (Hh.out.up hW) Hm.out hmm (Hl.out.up hW)).mono ?_
    rintro e w1 ⟨he, hb1⟩
    rw [if_neg Hf.out] at he
    subst he
    have hz1 := hb1.size
    simp only [World.size_alloc] at hz1
    have hB1 : Below w.heap.size w w1 := hW.trans (hb1.mono (by simp))
    clear hb1 b0 hW
    go_wp2_with (first | (refine wpList_store_row rfl 85 _ _ rfl w1.heap.size (jobC zeroJ (.slice none 0 0)) rfl rfl _ _ (Bk.new _ _ _) szWork rfl (oneJob _ _ _ _) ?_; rw [World.setRow_alloc_new]))
    refine bodyPost_ret (v := .tuple #[.int .i64 0, .int .i64 (filedE J l)]) (by simp [results, Try.results28, go_sem]) rfl ⟨by rw [HV.out], ?_⟩
    first | exact hB1.alloc (by omega) _ | exact hB1
end Go.Proofs.Ytdficjnnlaicpaa
