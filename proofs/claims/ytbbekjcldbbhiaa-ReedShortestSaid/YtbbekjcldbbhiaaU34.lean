/- Part 34 of the proof: RefS. -/
import Derived.Test.YtbbekjcldbbhiaaU33
import Derived.Test.YtbbekjcldbbhiaaU12
/- Shortest on any job, of the program and of the reference. -/
namespace Go.Proofs.Ytbbekjcldbbhiaa
set_option linter.all false
open Go.RowKit
noncomputable def sndS : Code → Code
  | .seq _ c => c
  | c => c
noncomputable def rsbody : Code := Try.f10.body.getD .skip
noncomputable def rsrest1 : Code := sndS rsbody
noncomputable def rsrest2 : Code := sndS rsrest1
noncomputable def rsrest3 : Code := sndS rsrest2
set_option maxRecDepth 1000000 in
theorem rsbody_eq : rsbody = .seq (Code.region 0 #[⟨some 1, .box 30 (.tmp 0), 0, "stroke.go:118", #[], none⟩, ⟨some 2, .assign (.const (.slice none 0 0)), 31, "stroke.go:118", #[], none⟩, ⟨some 3, .assign (.const (.int .i64 0)), 38, "stroke.go:118", #[⟨1, .chain⟩], none⟩] false) rsrest1 := by kernel_rfl
set_option maxRecDepth 1000000 in
theorem rsrest1_eq : rsrest1 = .seq (.seq (Code.region 1 #[⟨some 8, .load 30 (.tmp 1), 30, "stroke.go:119", #[], none⟩, ⟨some 9, .call { callee := .value (.func 32), args := #[.tmp 8], argTypes := #[30] }, 38, "stroke.go:119", #[⟨0, .data⟩], none⟩, ⟨some 4, .assign (.tmp 9), 38, "stroke.go:119", #[⟨1, .data⟩, ⟨1, .chain⟩, ⟨0, .phase⟩, ⟨1, .phase⟩], none⟩] false) (.seq (Code.region 2 #[⟨some 10, .move (.tmp 4), 38, "stroke.go:119", #[], none⟩, ⟨some 11, .binOp .neq 38 (.tmp 10) (.const (.int .i64 0)) 38, 4, "stroke.go:119", #[⟨0, .data⟩], none⟩] false) (.cond (.tmp 11) (.seq (Code.region 3 #[⟨some 12, .move (.tmp 4), 38, "stroke.go:120", #[⟨1, .gcOnly .lateStores⟩], none⟩, ⟨some 2, .assign (.const (.slice none 0 0)), 31, "stroke.go:120", #[⟨0, .textOnly .lateStores⟩], none⟩, ⟨some 3, .assign (.tmp 12), 38, "stroke.go:120", #[⟨0, .data⟩, ⟨1, .chain⟩, ⟨0, .phase⟩, ⟨1, .phase⟩], none⟩] false) .ret) .skip))) rsrest2 := by kernel_rfl
set_option maxRecDepth 1000000 in
theorem rsrest2_eq : rsrest2 = .seq (.seq (Code.region 4 #[⟨some 5, .assign (.const (.int .i64 0)), 3, "stroke.go:122", #[], none⟩] false) (.block 0 (.loop (.seq (.seq (Code.region 5 #[⟨some 13, .move (.tmp 5), 3, "stroke.go:122", #[], none⟩, ⟨some 14, .binOp .leq 3 (.tmp 13) (.const (.int .i64 6)) 3, 4, "stroke.go:122", #[⟨0, .data⟩], none⟩] false) (.cond (.tmp 14) .skip (.exit 0))) (.seq (.block 1 (.seq (Code.region 7 #[⟨some 17, .move (.tmp 5), 3, "stroke.go:123", #[], none⟩, ⟨some 18, .call { callee := .value (.func 14), args := #[.tmp 17], argTypes := #[3] }, 45, "stroke.go:123", #[⟨0, .data⟩], none⟩, ⟨some 6, .assign (.tmp 18), 45, "stroke.go:123", #[⟨1, .data⟩, ⟨1, .chain⟩, ⟨0, .phase⟩, ⟨1, .phase⟩], none⟩] false) (.seq (Code.region 8 #[⟨some 7, .assign (.const (.int .i64 0)), 3, "stroke.go:124", #[], none⟩] false) (.block 2 (.loop (.seq (.seq (Code.region 9 #[⟨some 19, .move (.tmp 7), 3, "stroke.go:124", #[], none⟩, ⟨some 20, .move (.tmp 6), 45, "stroke.go:124", #[], none⟩, ⟨some 21, .call { callee := .builtin .len, args := #[.tmp 20], argTypes := #[45] }, 3, "stroke.go:124", #[⟨1, .data⟩], none⟩, ⟨some 22, .binOp .lss 3 (.tmp 19) (.tmp 21) 3, 4, "stroke.go:124", #[⟨0, .data⟩, ⟨2, .data⟩], none⟩] false) (.cond (.tmp 22) .skip (.exit 2))) (.seq (.block 3 (.seq (Code.region 11 #[⟨some 25, .load 30 (.tmp 1), 30, "stroke.go:125", #[], none⟩, ⟨some 26, .move (.tmp 6), 45, "stroke.go:125", #[], none⟩, ⟨some 27, .move (.tmp 7), 3, "stroke.go:125", #[], none⟩, ⟨some 28, .indexAddr 45 (.tmp 26) (.tmp 27), 0, "stroke.go:125", #[⟨1, .data⟩, ⟨2, .data⟩], none⟩, ⟨some 29, .load 31 (.tmp 28), 31, "stroke.go:125", #[⟨3, .data⟩], none⟩, ⟨some 30, .call { callee := .value (.func 33), args := #[.tmp 25, .tmp 29], argTypes := #[30, 31] }, 3, "stroke.go:125", #[⟨0, .data⟩, ⟨4, .data⟩], none⟩, ⟨some 31, .binOp .eql 3 (.tmp 30) (.const (.int .i64 1)) 3, 4, "stroke.go:125", #[⟨5, .data⟩], none⟩] true) (.cond (.tmp 31) (.seq (Code.region 12 #[⟨some 32, .move (.tmp 6), 45, "stroke.go:126", #[], none⟩, ⟨some 33, .move (.tmp 7), 3, "stroke.go:126", #[], none⟩, ⟨some 34, .indexAddr 45 (.tmp 32) (.tmp 33), 0, "stroke.go:126", #[⟨0, .data⟩, ⟨1, .data⟩], none⟩, ⟨some 35, .load 31 (.tmp 34), 31, "stroke.go:126", #[⟨2, .data⟩], none⟩, ⟨some 2, .assign (.tmp 35), 31, "stroke.go:126", #[⟨3, .data⟩, ⟨0, .phase⟩, ⟨1, .phase⟩, ⟨2, .phase⟩, ⟨3, .phase⟩], none⟩, ⟨some 3, .assign (.const (.int .i64 0)), 38, "stroke.go:126", #[⟨4, .chain⟩, ⟨0, .phase⟩, ⟨1, .phase⟩, ⟨2, .phase⟩, ⟨3, .phase⟩, ⟨4, .phase⟩], none⟩] false) .ret) .skip))) (Code.region 10 #[⟨some 23, .move (.tmp 7), 3, "stroke.go:124", #[], none⟩, ⟨some 24, .binOp .add 3 (.tmp 23) (.const (.int .i64 1)) 3, 3, "stroke.go:124", #[⟨0, .data⟩], none⟩, ⟨some 7, .assign (.tmp 24), 3, "stroke.go:124", #[⟨1, .data⟩, ⟨0, .phase⟩, ⟨1, .phase⟩], none⟩] false)))))))) (Code.region 6 #[⟨some 15, .move (.tmp 5), 3, "stroke.go:122", #[], none⟩, ⟨some 16, .binOp .add 3 (.tmp 15) (.const (.int .i64 1)) 3, 3, "stroke.go:122", #[⟨0, .data⟩], none⟩, ⟨some 5, .assign (.tmp 16), 3, "stroke.go:122", #[⟨1, .data⟩, ⟨0, .phase⟩, ⟨1, .phase⟩], none⟩] false)))))) rsrest3 := by kernel_rfl
set_option maxRecDepth 1000000 in
theorem rsrest3_eq : rsrest3 = .seq (Code.region 13 #[⟨some 2, .assign (.const (.slice none 0 0)), 31, "stroke.go:130", #[], none⟩, ⟨some 3, .assign (.const (.int .i64 11)), 38, "stroke.go:130", #[⟨0, .chain⟩, ⟨0, .phase⟩], none⟩] false) .ret := by kernel_rfl

/-- What Shortest answers on any job. -/
def ShortX (J : Jb) (w : World) (e : Ending) (w' : World) : Prop := if J.check = 0 then ShortQ J w e w' else e = .returned (.tuple #[.slice none 0 0, .int .i64 J.check]) ∧ Below w.heap.size w w'
def QRS (J : Jb) (w0 : World) : Exit → Act → World → Prop := bodyPost Try.prog Try.f10 (ShortQ J w0)
set_option maxHeartbeats 1000000 in
set_option maxRecDepth 100000 in
theorem shortX_any (hs : ShortOK) (J : Jb) (a : Option Addr) (n c : Nat) (w : World) (hn : n = J.sh.length) (hm : n ≤ 9223372036854775807) (h : Rg w w.heap.size a J.sh) : Calls Try.prog 9 #[.agg (jobC J (.slice a n c))] w (ShortX J w) := by
  by_cases hc : J.check = 0
  · refine (hs J a n c w hc hn hm h).mono fun e w' q => ?_
    unfold ShortX
    rw [if_pos hc]
    exact q
  · have hcb : (J.check != 0) = true := by simpa using hc
    have HX : Hid (∀ e w', e = .returned (.tuple #[.slice none 0 0, .int .i64 J.check]) ∧ Below w.heap.size w w' → ShortX J w e w') := fun e w' q => by
      unfold ShortX
      rw [if_neg hc]
      exact q
    have Hn := hidMk hn
    have Hh := hidMk h
    clear hn h hc hs
    have b0 : Bk (((w.alloc (.cells (jobC J (.slice a n c)) 30)).alloc (.cells #[.slice none 0 0] 31)).alloc (.cells #[.int .i64 0] 38)) w.heap.size 30 (jobC J (.slice a n c)) := ((Bk.new w _ _).alloc _).alloc _
    have b1 : Bk (((w.alloc (.cells (jobC J (.slice a n c)) 30)).alloc (.cells #[.slice none 0 0] 31)).alloc (.cells #[.int .i64 0] 38)) (w.heap.size + 1) 31 #[.slice none 0 0] := (Bk.newAt _ _ _ _ (by simp)).alloc _
    have b2 : Bk (((w.alloc (.cells (jobC J (.slice a n c)) 30)).alloc (.cells #[.slice none 0 0] 31)).alloc (.cells #[.int .i64 0] 38)) (w.heap.size + 1 + 1) 38 #[.int .i64 0] := Bk.newAt _ _ _ _ (by simp)
    have hW : Below w.heap.size w (((w.alloc (.cells (jobC J (.slice a n c)) 30)).alloc (.cells #[.slice none 0 0] 31)).alloc (.cells #[.int .i64 0] 38)) := (((Below.refl _ _).alloc (Nat.le_refl _) _).alloc (by simp) _).alloc (by simp; omega) _
    go_enter Try.func9, Try.ntmps9
    go_wp2_with (refine wpList_load_row rfl 30 _ rfl w.heap.size rfl _ (jobC J (.slice a n c)) _ _ b0 Try.underlying30 rfl szJob ?_)
    refine (check_any J a n c _ Hn.out hm (Hh.out.up hW)).mono ?_
    rintro e w1 ⟨rfl, hb1⟩
    have q1 := b1.below hb1 b1.lt
    have q2 := b2.below hb1 b2.lt
    have z1 := q1.at_ 0 _ rfl
    have z2 := q2.at_ 0 _ rfl
    have f1 := q1.free 0
    have f2 := q2.free 0
    have hB := hW.trans (hb1.mono hW.size)
    have HBs : Hid (∀ x y, Below w.heap.size w ((w1.setCell ⟨w.heap.size + 1, 0, none⟩ x).setCell ⟨w.heap.size + 1 + 1, 0, none⟩ y)) := fun x y => (hB.setCell (p := ⟨w.heap.size + 1, 0, none⟩) (by simp) x).setCell (p := ⟨w.heap.size + 1 + 1, 0, none⟩) (by simp; omega) y
    have r1 : Bk ((w1.setCell ⟨w.heap.size + 1, 0, none⟩ (.slice none 0 0)).setCell ⟨w.heap.size + 1 + 1, 0, none⟩ (.int .i64 J.check)) (w.heap.size + 1) 31 #[.slice none 0 0] := (q1.put1 _).other (by simp) _
    have r2 : Bk ((w1.setCell ⟨w.heap.size + 1, 0, none⟩ (.slice none 0 0)).setCell ⟨w.heap.size + 1 + 1, 0, none⟩ (.int .i64 J.check)) (w.heap.size + 1 + 1) 38 #[.int .i64 J.check] := (q2.other (by simp) _).put1 _
    have C1 := hidMk (r1.at_ 0 _ rfl)
    have C2 := hidMk (r2.at_ 0 _ rfl)
    clear hb1 b0 b1 b2 hW hB q1 q2 r1 r2
    go_wp2
    have c1 := C1.out
    have c2 := C2.out
    first
      | (refine bodyPost_ret (v := .tuple #[.slice none 0 0, .int .i64 J.check]) ?_ rfl (HX.out _ _ ⟨rfl, HBs.out _ _⟩); simp [results, Try.results9, go_sem, c1, c2])
      | (go_ret; exact HX.out _ _ ⟨rfl, HBs.out _ _⟩)
set_option maxHeartbeats 4000000 in
set_option maxRecDepth 1000000 in
theorem rspart2 {w0 w : World} {g1 : Nat} {J : Jb} {a : Option Addr} {n c : Nat} {u0 u2 u3 u4 u5 u6 u7 u8 u9 u10 u11 u12 u13 u14 u15 u16 u17 u18 u19 u20 u21 u22 u23 u24 u25 u26 u27 u28 u29 u30 u31 u32 u33 u34 u35 : Value} (hb0 : Below w0.heap.size w0 w) (hj : Bk w g1 30 (jobC J (.slice a n c))) (hrg : Rg w w.heap.size a J.sh) (hme : n = J.sh.length) (hck : J.check = 0) : Code.wp Try.prog rsrest2 (QRS J w0) ⟨#[u0, (.pointer (some ⟨g1, 0, none⟩)), u2, u3, u4, u5, u6, u7, u8, u9, u10, u11, u12, u13, u14, u15, u16, u17, u18, u19, u20, u21, u22, u23, u24, u25, u26, u27, u28, u29, u30, u31, u32, u33, u34, u35], []⟩ w := by
  rw [rsrest2_eq]
  have HB0 := hidMk hb0
  have HJ := hidMk hj
  have HRG := hidMk hrg
  have HME := hidMk hme
  have HIN := hidMk ((check_ok hck).inn.mono (by decide : (100 : Int) ≤ 200))
  clear hb0 hj hrg hme hck
  unfold QRS
  refine wp_seq_k fun K0 hK0 => ?_
  go_wp2_with fail
  go_loopw [5] (fun mv wr => ∃ k : Nat, k ≤ 7 ∧ mv = .int .i64 k ∧ Hid (∀ n', n' < k → ∀ l' ∈ plansL n', fineS J l' ≠ 1) ∧ Below w.heap.size w wr) (fun mv _ => 7 - (intOf mv).toNat)
  case atStart => exact ⟨0, by decide, rfl, hidMk (fun n' h => absurd h (Nat.not_lt_zero _)), Below.refl _ _⟩
  case round =>
    obtain ⟨k, hk7, rfl, HN, hB⟩ := hrel
    by_cases hk6i : (k : Int) ≤ 6
    · have hk6 : k ≤ 6 := by omega
      go_wp2_with fail
      refine (plans_any k hk6 _).mono ?_
      rintro e w5 ⟨pa, pc, rfl, hpl, hb5⟩
      obtain ⟨N, HNN⟩ : ∃ N, Hid (N = (plansL k).length) := ⟨_, hidMk rfl⟩
      have hN64 : N ≤ 64 := by
        rw [HNN.out, plansL_len]
        exact Nat.pow_le_pow_right (n := 2) (by decide) hk6
      rw [← HNN.out]
      have HPL := hidMk hpl
      have hB5 : Below w.heap.size w w5 := hB.trans (hb5.mono hB.size)
      have HB5 := hidMk hB5
      clear hpl hb5 hB hB5
      go_wp2_with fail
      go_loopw [7] (fun iv wi => ∃ i : Nat, i ≤ N ∧ iv = .int .i64 i ∧ Hid (∀ i', i' < i → ∀ l', (plansL k)[i']? = some l' → fineS J l' ≠ 1) ∧ Below w5.heap.size w5 wi) (fun iv _ => N - (intOf iv).toNat)
      case atStart => exact ⟨0, Nat.zero_le _, rfl, hidMk (fun i' h => absurd h (Nat.not_lt_zero _)), Below.refl _ _⟩
      case round =>
        obtain ⟨i, hiN, rfl, HI, hBo⟩ := hrel
        have hB := HB5.out.trans (hBo.mono HB5.out.size)
        by_cases hlt : i < N
        · have hil : i < (plansL k).length := by rw [← HNN.out]; exact hlt
          obtain ⟨p, Hp⟩ : ∃ p, Hid (p = (plansL k)[i]) := ⟨_, hidMk rfl⟩
          have hp : (plansL k)[i]? = some p := by rw [Hp.out]; exact List.getElem?_eq_getElem hil
          obtain ⟨b, off, la, lc, rfl, hb5, hc5, hp5⟩ := HPL.out i p hp
          have hmem : p ∈ plansL k := List.mem_of_getElem? hp
          have HPK := hidMk (plansL_each k p hmem)
          rw [HPK.out] at hc5
          have hcw := (hBo.cell (p := ⟨b, off + i, none⟩) hb5).trans hc5
          have hbw : b < wr.heap.size := Nat.lt_of_lt_of_le hb5 hBo.size
          have HPI := hidMk (hp5.up hBo)
          have hi0 : (0 : Int) ≤ (i : Int) := by omega
          have hi1 : (i : Int) < (N : Int) := by omega
          clear hc5 hp5
          go_wp2_with fail
          refine region_via (R := fun a_ e_ a' w' => e_ = .normal ∧ ∃ (v25 v26 v27 v28 v29 v30 : Value), a' = (((((((a_.put (some 25) v25).put (some 26) v26).put (some 27) v27).put (some 28) v28).put (some 29) v29).put (some 30) v30).put (some 31) (.bool (fineS J p == 1))) ∧ Below wr.heap.size wr w') ?_ ?_
          rotate_left
          · rintro e_ a' w' ⟨rfl, v25, v26, v27, v28, v29, v30, rfl, al⟩
            simp only [Act.put, aT, aZ, aS]
            have hB2 : Below w.heap.size w w' := hB.trans (al.mono hB.size)
            have hcell2 := (al.cell (p := ⟨b, off + i, none⟩) hbw).trans hcw
            have HP2 := hidMk (HPI.out.up al)
            have AL := hidMk al
            clear al
            by_cases hf1 : fineS J p = 1
            · have hf1b : (fineS J p == 1) = true := by rw [hf1]; rfl
              have HFi := hidMk (show FirstS J k i p from ⟨hk6, hp, hf1, HN.out, HI.out⟩)
              have HB6 := hidMk (HB0.out.trans (hB2.mono HB0.out.size))
              clear hB2 hf1
              rw [hf1b]
              go_wp2_with fail
              refine bodyPost_ret (v := .tuple #[.slice la k lc, .int .i64 0]) (by simp [results, Try.results10, go_sem]) rfl ⟨.inl ⟨k, i, p, la, lc, HFi.out, rfl, HP2.out⟩, HB6.out⟩
            · have hf1b : (fineS J p == 1) = false := by rw [beq_eq_false_iff_ne]; exact hf1
              have HB2 := hidMk hB2
              have HBB := hidMk (hBo.trans (AL.out.mono hBo.size))
              clear hcell2 hB2
              rw [hf1b]
              go_wp2_with fail
              go_roundw
              case rel =>
                refine ⟨i + 1, by omega, by go_num, hidMk (fun i' hi' l' hl' => ?_), HBB.out⟩
                by_cases h : i' < i
                · exact HI.out i' h l' hl'
                · obtain rfl : i' = i := by omega
                  rw [hp] at hl'
                  cases hl'
                  exact hf1
              case measure => simp [intOf]; omega
          have hBW : Below wr.heap.size wr wr.drew := (Below.refl _ _).drew
          refine wp_region_held_drew (S := fun w' => Below wr.heap.size wr w') (by kernel_rfl) hBW (fun hS0 => ?_)
          generalize hWd : wr.drew = wd at hS0 hBW ⊢
          clear hWd
          refine wpAnyH_take (i := 0) (oi := ⟨some 25, .load 30 (.tmp 1), 30, "stroke.go:125", #[], none⟩) rfl (by kernel_rfl) (by kernel_rfl) (by kernel_rfl) (fun _ _ _ h => by cases h.1) (yields_row (by rfl) 30 _ rfl g1 (jobC J (.slice a n c)) rfl 30 (fun w' hw => (HJ.out.below hB HJ.out.lt).below hw (HJ.out.below hB HJ.out.lt).lt) Try.underlying30 szJob) (by assumption) ?_
          (try simp only [Act.put, aT, aZ, aS])
          refine wpAnyH_take (i := 1) (oi := ⟨some 26, .move (.tmp 6), 45, "stroke.go:125", #[], none⟩) (v := ?_) rfl (by kernel_rfl) (by kernel_rfl) (by kernel_rfl) (fun _ _ _ h => by cases h.1) (.inl ⟨by rfl, ?_⟩) (by assumption) ?_
          rotate_left
          · (intro w' hSw; (try dsimp only at hSw); (have hrd := (hSw.cell (p := ⟨b, off + i, none⟩) hbw).trans hcw); go_simp <;> with_reducible rfl)
          (try simp only [Act.put, aT, aZ, aS])
          refine wpAnyH_take (i := 2) (oi := ⟨some 27, .move (.tmp 7), 3, "stroke.go:125", #[], none⟩) (v := ?_) rfl (by kernel_rfl) (by kernel_rfl) (by kernel_rfl) (fun _ _ _ h => by cases h.1) (.inl ⟨by rfl, ?_⟩) (by assumption) ?_
          rotate_left
          · (intro w' hSw; (try dsimp only at hSw); (have hrd := (hSw.cell (p := ⟨b, off + i, none⟩) hbw).trans hcw); go_simp <;> with_reducible rfl)
          (try simp only [Act.put, aT, aZ, aS])
          refine wpAnyH_take (i := 3) (oi := ⟨some 28, .indexAddr 45 (.tmp 26) (.tmp 27), 0, "stroke.go:125", #[⟨1, .data⟩, ⟨2, .data⟩], none⟩) (v := ?_) rfl (by kernel_rfl) (by kernel_rfl) (by kernel_rfl) (fun _ _ _ h => by cases h.1) (.inl ⟨by rfl, ?_⟩) (by assumption) ?_
          rotate_left
          · (intro w' hSw; (try dsimp only at hSw); (have hrd := (hSw.cell (p := ⟨b, off + i, none⟩) hbw).trans hcw); go_simp <;> with_reducible rfl)
          (try simp only [Act.put, aT, aZ, aS])
          refine wpAnyH_take (i := 4) (oi := ⟨some 29, .load 31 (.tmp 28), 31, "stroke.go:125", #[⟨3, .data⟩], none⟩) (v := ?_) rfl (by kernel_rfl) (by kernel_rfl) (by kernel_rfl) (fun _ _ _ h => by cases h.1) (.inl ⟨by rfl, ?_⟩) (by assumption) ?_
          rotate_left
          · (intro w' hSw; (try dsimp only at hSw); (have hrd := (hSw.cell (p := ⟨b, off + i, none⟩) hbw).trans hcw); go_simp <;> with_reducible rfl)
          (try simp only [Act.put, aT, aZ, aS])
          refine wpAnyH_ready (rs := [5]) (by kernel_rfl) (by simp) ?_
          refine AllReadyH.cons (o := ⟨some 30, .call { callee := .value (.func 33), args := #[.tmp 25, .tmp 29], argTypes := #[30, 31] }, 3, "stroke.go:125", #[⟨0, .data⟩, ⟨4, .data⟩], none⟩) rfl (fun K hK => ?_) ?_
          · go_simp
            go_at_call 33
            refine (refFine_any J a n c la k lc p _ HIN.out HME.out ((HRG.out.up hB).up hBW) HPK.out.symm hk6 (plans_12 k p hmem) (HPI.out.up hBW)).mono ?_
            rintro e' wX ⟨rfl, hbX⟩
            have hBW_ := hBW.trans (hbX.mono hBW.size)
            clear hBW
            have hBW := hBW_
            clear hBW_
            clear hbX
            rw [show fineI J (afterS J J.tg p) = fineS J p from rfl]
            go_wp2_with fail
            refine hK.out _ _ hBW (fun _ => ?_)
            clear hK K
            (try simp only [Act.put, aT, aZ, aS])
            refine wpAnyH_take (i := 6) (oi := ⟨some 31, .binOp .eql 3 (.tmp 30) (.const (.int .i64 1)) 3, 4, "stroke.go:125", #[⟨5, .data⟩], none⟩) (v := ?_) rfl (by kernel_rfl) (by kernel_rfl) (by kernel_rfl) (fun _ _ _ h => by cases h.1) (.inl ⟨by rfl, ?_⟩) (by assumption) ?_
            rotate_left
            · (intro w' hSw; (try dsimp only at hSw); (have hrd := (hSw.cell (p := ⟨b, off + i, none⟩) hbw).trans hcw); go_simp <;> with_reducible rfl)
            (try simp only [Act.put, aT, aZ, aS])
            refine wpAnyH_done (by kernel_rfl) ?_ _
            exact ⟨rfl, _, _, _, _, _, _, rfl, hBW⟩
          exact AllReadyH.nil
        · obtain rfl : i = N := by omega
          have HBk := hidMk hB
          clear hB hBo
          go_wp2_with fail
          go_roundw
          case rel =>
            refine ⟨k + 1, by omega, by go_num, hidMk (fun n' hn' l' hl' => ?_), HBk.out⟩
            by_cases h : n' < k
            · exact HN.out n' h l' hl'
            · obtain rfl : n' = k := by omega
              obtain ⟨j, hj, e⟩ := List.getElem_of_mem hl'
              exact HI.out j (by rw [HNN.out]; exact hj) l' (by rw [List.getElem?_eq_getElem hj, e])
          case measure => simp [intOf]; omega
    · obtain rfl : k = 7 := by omega
      have HNO := hidMk (show NoneS J from fun n hn l hl => HN.out n (by omega) l hl)
      have HB2 := hidMk (HB0.out.trans (hB.mono HB0.out.size))
      clear hB
      go_wp2_with fail
      rw [rsrest3_eq]
      go_wp2_with fail
      refine bodyPost_ret (v := .tuple #[.slice none 0 0, .int .i64 11]) (by simp [results, Try.results10, go_sem]) rfl ⟨.inr ⟨HNO.out, rfl⟩, HB2.out⟩
set_option maxHeartbeats 1000000 in
set_option maxRecDepth 100000 in
theorem refShort_any (J : Jb) (a : Option Addr) (n c : Nat) (w : World) (hn : n = J.sh.length) (hm : n ≤ 9223372036854775807) (h : Rg w w.heap.size a J.sh) : Calls Try.prog 10 #[.agg (jobC J (.slice a n c))] w (ShortX J w) := by
  have Hn := hidMk hn
  have Hh := hidMk h
  clear hn h
  have b0 := Bk.new w 30 (jobC J (.slice a n c))
  have hW : Below w.heap.size w (w.alloc (.cells (jobC J (.slice a n c)) 30)) := (Below.refl _ _).alloc (Nat.le_refl _) _
  by_cases hc : J.check = 0
  · have hcb : (J.check != 0) = false := by simp [hc]
    have HX : Hid (ShortX J w = ShortQ J w) := by
      show ShortX J w = ShortQ J w
      funext e w'
      unfold ShortX
      rw [if_pos hc]
    have HC := hidMk hc
    clear hc
    rw [HX.out]
    go_enter Try.func10, Try.ntmps10
    show Code.wp Try.prog rsbody (QRS J w) _ _
    rw [rsbody_eq]
    go_wp2_with fail
    rw [rsrest1_eq]
    go_wp2_with (refine wpList_load_row rfl 30 _ rfl w.heap.size rfl _ (jobC J (.slice a n c)) _ _ b0 Try.underlying30 rfl szJob ?_)
    refine (refCheck_any J a n c _ Hn.out hm (Hh.out.up hW)).mono ?_
    rintro e w1 ⟨rfl, hb⟩
    have HB1 := hidMk (hW.trans (hb.mono hW.size))
    have HK := hidMk (b0.below hb b0.lt)
    have HR := hidMk ((Hh.out.up hW).up hb)
    clear hb b0 hW
    go_wp2_with fail
    exact rspart2 HB1.out HK.out HR.out Hn.out HC.out
  · have hcb : (J.check != 0) = true := by simpa using hc
    have HX : Hid (∀ e w', e = .returned (.tuple #[.slice none 0 0, .int .i64 J.check]) ∧ Below w.heap.size w w' → ShortX J w e w') := fun e w' q => by
      unfold ShortX
      rw [if_neg hc]
      exact q
    clear hc
    go_enter Try.func10, Try.ntmps10
    go_wp2_with (refine wpList_load_row rfl 30 _ rfl w.heap.size rfl _ (jobC J (.slice a n c)) _ _ b0 Try.underlying30 rfl szJob ?_)
    refine (refCheck_any J a n c _ Hn.out hm (Hh.out.up hW)).mono ?_
    rintro e w1 ⟨rfl, hb⟩
    have HB1 := hidMk (hW.trans (hb.mono hW.size))
    clear hb b0 hW
    go_wp2
    refine bodyPost_ret (v := .tuple #[.slice none 0 0, .int .i64 J.check]) (by simp [results, Try.results10, go_sem]) rfl (HX.out _ _ ⟨rfl, HB1.out⟩)
end Go.Proofs.Ytbbekjcldbbhiaa
