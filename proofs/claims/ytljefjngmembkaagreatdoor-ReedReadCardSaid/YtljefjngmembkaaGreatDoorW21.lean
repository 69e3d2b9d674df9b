/- Part 21 of the proof: SamJ, Pots, TxV. -/
import Derived.Deep.WholeRow
import Derived.Test.YtljefjngmembkaaGreatDoorW14
import Derived.Test.YtljefjngmembkaaGreatDoorW20
import Derived.Test.YtljefjngmembkaaGreatDoorW13
/- Comparisons of jobs. -/
namespace Go.Proofs.YtljefjngmembkaaGreatDoor
set_option linter.all false
open Go.RowKit
noncomputable def sndJ : Code → Code
  | .seq _ c => c
  | c => c
set_option maxRecDepth 100000 in
theorem eqlR (a0 a1 : Int) (w : World) : (binOp .eql 23 (.agg #[.int .i64 a0,.int .i64 a1]) (.agg #[.int .i64 a0,.int .i64 a1])).run Tryz.prog w = .ok (.bool true) w := by
  rw [run_eql_struct]
  simp [go_sem]
set_option maxRecDepth 100000 in
theorem eqlT (a0 a1 a2 a3 a4 a5 : Int) (w : World) : (binOp .eql 25 (.agg #[.int .i64 a0,.int .i64 a1,.int .i64 a2,.int .i64 a3,.int .i64 a4,.int .i64 a5]) (.agg #[.int .i64 a0,.int .i64 a1,.int .i64 a2,.int .i64 a3,.int .i64 a4,.int .i64 a5])).run Tryz.prog w = .ok (.bool true) w := by
  rw [run_eql_struct]
  simp [go_sem]
set_option maxRecDepth 100000 in
theorem eqlF (a0 a1 a2 a3 a4 a5 a6 a7 a8 : Int) (w : World) : (binOp .eql 27 (.agg #[.int .i64 a0,.int .i64 a1,.int .i64 a2,.int .i64 a3,.int .i64 a4,.int .i64 a5,.int .i64 a6,.int .i64 a7,.int .i64 a8]) (.agg #[.int .i64 a0,.int .i64 a1,.int .i64 a2,.int .i64 a3,.int .i64 a4,.int .i64 a5,.int .i64 a6,.int .i64 a7,.int .i64 a8])).run Tryz.prog w = .ok (.bool true) w := by
  rw [run_eql_struct]
  simp [go_sem]
set_option maxHeartbeats 2000000 in
set_option maxRecDepth 100000 in
theorem sameRanges_any (a b : Option Addr) (n c d : Nat) (l : List R2) (w : World) (hn : n = l.length) (hm : n ≤ 1000) (ha : Rg w w.heap.size a l) (hb : Rg w w.heap.size b l) :
    Calls Tryz.prog 39 #[.slice a n c,.slice b n d] w fun e w' => e = .returned (.bool true) ∧ Below w.heap.size w w' := by
  have Hn := hidMk hn
  have Ha := hidMk ha
  have Hb := hidMk hb
  clear hn ha hb
  go_enter Tryz.func39,Tryz.ntmps39
  go_wp2_with fail
  go_loopw [5,6] (fun v i wr => ∃ k : Nat,k ≤ n ∧ i = .int .i64 k ∧ v = .bool true ∧ Below w.heap.size w wr) (fun _ i _ => n - (intOf i).toNat)
  case atStart => exact ⟨0,Nat.zero_le _,rfl,by simp,Below.refl _ _⟩
  case round =>
    obtain ⟨k,hk,rfl,rfl,hB⟩ := hrel
    by_cases hlt : k < n
    · have hkl : k < l.length := by rw [← Hn.out]; exact hlt
      obtain ⟨q,off,rfl,hbl,e0,e1⟩ := Ha.out k l[k] (List.getElem?_eq_getElem hkl)
      obtain ⟨q',off',rfl,hbl',e0',e1'⟩ := Hb.out k l[k] (List.getElem?_eq_getElem hkl)
      obtain ⟨s,Hs⟩ : ∃ s,Hid (s = l[k]) := ⟨_,hidMk rfl⟩
      rw [← Hs.out] at e0 e1 e0' e1'
      have hklt : decide ((k : Int) < (n : Int)) = true := decide_eq_true (by omega)
      go_wp2_with fail
      refine region_via (R := fun a_ e a' w' => e = .normal ∧ ∃ (v21 v22 v23 v24 v25 v26 v27 v28 v29 : Value),a' = ((((((((((a_.put (some 21) v21).put (some 22) v22).put (some 23) v23).put (some 24) v24).put (some 25) v25).put (some 26) v26).put (some 27) v27).put (some 28) v28).put (some 29) v29).put (some 5) (.bool true)) ∧ Below w.heap.size w w') ?_ ?_
      rotate_left
      · rintro e a' w' ⟨rfl,v21,v22,v23,v24,v25,v26,v27,v28,v29,rfl,hB'⟩
        simp only [Act.put,aT,aZ,aS]
        have HB' := hidMk hB'
        clear hB hB' e0 e1 e0' e1'
        go_wp2_with fail
        go_roundw
        case rel => exact ⟨k + 1,by omega,by go_num,rfl,HB'.out⟩
        case measure => simp [intOf]; omega
      refine wp_region_held_drew (S := fun w' => Below w.heap.size w w') (by kernel_rfl) hB.drew (fun hS0 => ?_)
      replace hB := hB.drew
      generalize hWd : wr.drew = wd at hS0 hB ⊢
      clear hWd
      refine wpAnyH_take (i := 0) (v := ?_) rfl (by kernel_rfl) (by kernel_rfl) (by kernel_rfl) (fun _ _ _ h => by cases h.1) (.inl ⟨by rfl,?_⟩) (by assumption) ?_
      rotate_left
      · (intro w' hSw; (try dsimp only at hSw); (have p0 := (hSw.cell (p := ⟨q,off + k * 2,none⟩) hbl).trans e0; have p1 := (hSw.cell (p := ⟨q,off + k * 2 + 1,none⟩) hbl).trans e1; have r0 := (hSw.cell (p := ⟨q',off' + k * 2,none⟩) hbl').trans e0'; have r1 := (hSw.cell (p := ⟨q',off' + k * 2 + 1,none⟩) hbl').trans e1'; have qe := eqlR s.1 s.2); go_simp <;> with_reducible rfl)
      (try simp only [Act.put,aT,aZ,aS])
      refine wpAnyH_take (i := 1) (v := ?_) rfl (by kernel_rfl) (by kernel_rfl) (by kernel_rfl) (fun _ _ _ h => by cases h.1) (.inl ⟨by rfl,?_⟩) (by assumption) ?_
      rotate_left
      · (intro w' hSw; (try dsimp only at hSw); (have p0 := (hSw.cell (p := ⟨q,off + k * 2,none⟩) hbl).trans e0; have p1 := (hSw.cell (p := ⟨q,off + k * 2 + 1,none⟩) hbl).trans e1; have r0 := (hSw.cell (p := ⟨q',off' + k * 2,none⟩) hbl').trans e0'; have r1 := (hSw.cell (p := ⟨q',off' + k * 2 + 1,none⟩) hbl').trans e1'; have qe := eqlR s.1 s.2); go_simp <;> with_reducible rfl)
      (try simp only [Act.put,aT,aZ,aS])
      refine wpAnyH_take (i := 2) (v := ?_) rfl (by kernel_rfl) (by kernel_rfl) (by kernel_rfl) (fun _ _ _ h => by cases h.1) (.inl ⟨by rfl,?_⟩) (by assumption) ?_
      rotate_left
      · (intro w' hSw; (try dsimp only at hSw); (have p0 := (hSw.cell (p := ⟨q,off + k * 2,none⟩) hbl).trans e0; have p1 := (hSw.cell (p := ⟨q,off + k * 2 + 1,none⟩) hbl).trans e1; have r0 := (hSw.cell (p := ⟨q',off' + k * 2,none⟩) hbl').trans e0'; have r1 := (hSw.cell (p := ⟨q',off' + k * 2 + 1,none⟩) hbl').trans e1'; have qe := eqlR s.1 s.2); go_simp <;> with_reducible rfl)
      (try simp only [Act.put,aT,aZ,aS])
      refine wpAnyH_take (i := 3) (v := ?_) rfl (by kernel_rfl) (by kernel_rfl) (by kernel_rfl) (fun _ _ _ h => by cases h.1) (.inl ⟨by rfl,?_⟩) (by assumption) ?_
      rotate_left
      · (intro w' hSw; (try dsimp only at hSw); (have p0 := (hSw.cell (p := ⟨q,off + k * 2,none⟩) hbl).trans e0; have p1 := (hSw.cell (p := ⟨q,off + k * 2 + 1,none⟩) hbl).trans e1; have r0 := (hSw.cell (p := ⟨q',off' + k * 2,none⟩) hbl').trans e0'; have r1 := (hSw.cell (p := ⟨q',off' + k * 2 + 1,none⟩) hbl').trans e1'; have qe := eqlR s.1 s.2); go_simp <;> with_reducible rfl)
      (try simp only [Act.put,aT,aZ,aS])
      refine wpAnyH_take (i := 4) (v := ?_) rfl (by kernel_rfl) (by kernel_rfl) (by kernel_rfl) (fun _ _ _ h => by cases h.1) (.inl ⟨by rfl,?_⟩) (by assumption) ?_
      rotate_left
      · (intro w' hSw; (try dsimp only at hSw); (have p0 := (hSw.cell (p := ⟨q,off + k * 2,none⟩) hbl).trans e0; have p1 := (hSw.cell (p := ⟨q,off + k * 2 + 1,none⟩) hbl).trans e1; have r0 := (hSw.cell (p := ⟨q',off' + k * 2,none⟩) hbl').trans e0'; have r1 := (hSw.cell (p := ⟨q',off' + k * 2 + 1,none⟩) hbl').trans e1'; have qe := eqlR s.1 s.2); go_simp <;> with_reducible rfl)
      (try simp only [Act.put,aT,aZ,aS])
      refine wpAnyH_take (i := 5) (v := ?_) rfl (by kernel_rfl) (by kernel_rfl) (by kernel_rfl) (fun _ _ _ h => by cases h.1) (.inl ⟨by rfl,?_⟩) (by assumption) ?_
      rotate_left
      · (intro w' hSw; (try dsimp only at hSw); (have p0 := (hSw.cell (p := ⟨q,off + k * 2,none⟩) hbl).trans e0; have p1 := (hSw.cell (p := ⟨q,off + k * 2 + 1,none⟩) hbl).trans e1; have r0 := (hSw.cell (p := ⟨q',off' + k * 2,none⟩) hbl').trans e0'; have r1 := (hSw.cell (p := ⟨q',off' + k * 2 + 1,none⟩) hbl').trans e1'; have qe := eqlR s.1 s.2); go_simp <;> with_reducible rfl)
      (try simp only [Act.put,aT,aZ,aS])
      refine wpAnyH_take (i := 6) (v := ?_) rfl (by kernel_rfl) (by kernel_rfl) (by kernel_rfl) (fun _ _ _ h => by cases h.1) (.inl ⟨by rfl,?_⟩) (by assumption) ?_
      rotate_left
      · (intro w' hSw; (try dsimp only at hSw); (have p0 := (hSw.cell (p := ⟨q,off + k * 2,none⟩) hbl).trans e0; have p1 := (hSw.cell (p := ⟨q,off + k * 2 + 1,none⟩) hbl).trans e1; have r0 := (hSw.cell (p := ⟨q',off' + k * 2,none⟩) hbl').trans e0'; have r1 := (hSw.cell (p := ⟨q',off' + k * 2 + 1,none⟩) hbl').trans e1'; have qe := eqlR s.1 s.2); go_simp <;> with_reducible rfl)
      (try simp only [Act.put,aT,aZ,aS])
      refine wpAnyH_take (i := 7) (v := ?_) rfl (by kernel_rfl) (by kernel_rfl) (by kernel_rfl) (fun _ _ _ h => by cases h.1) (.inl ⟨by rfl,?_⟩) (by assumption) ?_
      rotate_left
      · (intro w' hSw; (try dsimp only at hSw); (have p0 := (hSw.cell (p := ⟨q,off + k * 2,none⟩) hbl).trans e0; have p1 := (hSw.cell (p := ⟨q,off + k * 2 + 1,none⟩) hbl).trans e1; have r0 := (hSw.cell (p := ⟨q',off' + k * 2,none⟩) hbl').trans e0'; have r1 := (hSw.cell (p := ⟨q',off' + k * 2 + 1,none⟩) hbl').trans e1'; have qe := eqlR s.1 s.2); go_simp <;> with_reducible rfl)
      (try simp only [Act.put,aT,aZ,aS])
      refine wpAnyH_take (i := 8) (v := ?_) rfl (by kernel_rfl) (by kernel_rfl) (by kernel_rfl) (fun _ _ _ h => by cases h.1) (.inl ⟨by rfl,?_⟩) (by assumption) ?_
      rotate_left
      · (intro w' hSw; (try dsimp only at hSw); (have p0 := (hSw.cell (p := ⟨q,off + k * 2,none⟩) hbl).trans e0; have p1 := (hSw.cell (p := ⟨q,off + k * 2 + 1,none⟩) hbl).trans e1; have r0 := (hSw.cell (p := ⟨q',off' + k * 2,none⟩) hbl').trans e0'; have r1 := (hSw.cell (p := ⟨q',off' + k * 2 + 1,none⟩) hbl').trans e1'; have qe := eqlR s.1 s.2); go_simp <;> with_reducible rfl)
      (try simp only [Act.put,aT,aZ,aS])
      refine wpAnyH_ready (rs := [9]) (by kernel_rfl) (by simp) ?_
      refine AllReadyH.cons rfl (fun K hK => ?_) ?_
      · go_simp
        refine hK.out _ _ hB (fun hS3 => ?_)
        clear hK K
        (try simp only [Act.put,aT,aZ,aS])
        refine wpAnyH_done (by kernel_rfl) ?_ _
        exact ⟨rfl,_,_,_,_,_,_,_,_,_,rfl,hB⟩
      exact AllReadyH.nil
    · obtain rfl : k = n := by omega
      have HB := hidMk hB
      clear hB
      go_wp2_with fail
      go_ret
      exact ⟨rfl,HB.out⟩
noncomputable def sjbody : Code := Tryz.f13.body.getD .skip
noncomputable def sjrest1 : Code := sndJ sjbody
set_option maxRecDepth 1000000 in
theorem sjbody_eq : sjbody = .seq (Code.region 0 #[⟨some 2,.box 30 (.tmp 0),0,"jobs.go:51",#[],none⟩,⟨some 3,.box 30 (.tmp 1),0,"jobs.go:51",#[],none⟩,⟨some 4,.assign (.const (.bool false)),4,"jobs.go:51",#[],none⟩] false) sjrest1 := by kernel_rfl
set_option maxRecDepth 1000000 in
theorem sjrest1_eq : sjrest1 = .seq (Code.region 1 #[⟨some 5,.fieldAddr 30 (.tmp 2) 0,0,"jobs.go:52",#[],none⟩,⟨some 6,.load 25 (.tmp 5),25,"jobs.go:52",#[⟨0,.data⟩],none⟩,⟨some 7,.fieldAddr 30 (.tmp 3) 0,0,"jobs.go:52",#[],none⟩,⟨some 8,.load 25 (.tmp 7),25,"jobs.go:52",#[⟨2,.data⟩],none⟩,⟨some 9,.binOp .eql 25 (.tmp 6) (.tmp 8) 25,4,"jobs.go:52",#[⟨1,.data⟩,⟨3,.data⟩],none⟩,⟨some 10,.move (.tmp 9),4,"jobs.go:52",#[⟨4,.data⟩],none⟩,⟨some 11,.fieldAddr 30 (.tmp 2) 1,0,"jobs.go:52",#[⟨5,.guard⟩],some (5,true)⟩,⟨some 12,.load 27 (.tmp 11),27,"jobs.go:52",#[⟨6,.data⟩,⟨5,.guard⟩],some (5,true)⟩,⟨some 13,.fieldAddr 30 (.tmp 3) 1,0,"jobs.go:52",#[⟨5,.guard⟩],some (5,true)⟩,⟨some 14,.load 27 (.tmp 13),27,"jobs.go:52",#[⟨8,.data⟩,⟨5,.guard⟩],some (5,true)⟩,⟨some 15,.binOp .eql 27 (.tmp 12) (.tmp 14) 27,4,"jobs.go:52",#[⟨7,.data⟩,⟨9,.data⟩,⟨5,.guard⟩],some (5,true)⟩,⟨some 16,.pick (.tmp 10) (.tmp 15) (.const (.bool false)),4,"jobs.go:52",#[⟨5,.data⟩,⟨10,.data⟩],none⟩,⟨some 17,.move (.tmp 16),4,"jobs.go:52",#[⟨11,.data⟩,⟨5,.chain⟩],none⟩,⟨some 18,.fieldAddr 30 (.tmp 2) 3,0,"jobs.go:52",#[⟨12,.guard⟩],some (12,true)⟩,⟨some 19,.load 3 (.tmp 18),3,"jobs.go:52",#[⟨13,.data⟩,⟨12,.guard⟩],some (12,true)⟩,⟨some 20,.fieldAddr 30 (.tmp 3) 3,0,"jobs.go:52",#[⟨12,.guard⟩],some (12,true)⟩,⟨some 21,.load 3 (.tmp 20),3,"jobs.go:52",#[⟨15,.data⟩,⟨12,.guard⟩],some (12,true)⟩,⟨some 22,.binOp .eql 3 (.tmp 19) (.tmp 21) 3,4,"jobs.go:52",#[⟨14,.data⟩,⟨16,.data⟩,⟨12,.guard⟩],some (12,true)⟩,⟨some 23,.pick (.tmp 17) (.tmp 22) (.const (.bool false)),4,"jobs.go:52",#[⟨12,.data⟩,⟨17,.data⟩],none⟩,⟨some 24,.move (.tmp 23),4,"jobs.go:52",#[⟨18,.data⟩,⟨12,.chain⟩],none⟩,⟨some 25,.fieldAddr 30 (.tmp 2) 4,0,"jobs.go:52",#[⟨19,.guard⟩],some (19,true)⟩,⟨some 26,.load 3 (.tmp 25),3,"jobs.go:52",#[⟨20,.data⟩,⟨19,.guard⟩],some (19,true)⟩,⟨some 27,.fieldAddr 30 (.tmp 3) 4,0,"jobs.go:52",#[⟨19,.guard⟩],some (19,true)⟩,⟨some 28,.load 3 (.tmp 27),3,"jobs.go:52",#[⟨22,.data⟩,⟨19,.guard⟩],some (19,true)⟩,⟨some 29,.binOp .eql 3 (.tmp 26) (.tmp 28) 3,4,"jobs.go:52",#[⟨21,.data⟩,⟨23,.data⟩,⟨19,.guard⟩],some (19,true)⟩,⟨some 30,.pick (.tmp 24) (.tmp 29) (.const (.bool false)),4,"jobs.go:52",#[⟨19,.data⟩,⟨24,.data⟩],none⟩,⟨some 31,.move (.tmp 30),4,"jobs.go:52",#[⟨25,.data⟩,⟨19,.chain⟩],none⟩,⟨some 32,.fieldAddr 30 (.tmp 2) 2,0,"jobs.go:52",#[⟨26,.guard⟩],some (26,true)⟩,⟨some 33,.load 28 (.tmp 32),28,"jobs.go:52",#[⟨27,.data⟩,⟨26,.guard⟩],some (26,true)⟩,⟨some 34,.fieldAddr 30 (.tmp 3) 2,0,"jobs.go:52",#[⟨26,.guard⟩],some (26,true)⟩,⟨some 35,.load 28 (.tmp 34),28,"jobs.go:52",#[⟨29,.data⟩,⟨26,.guard⟩],some (26,true)⟩,⟨some 36,.call { callee := .value (.func 39),args := #[.tmp 33,.tmp 35],argTypes := #[28,28] },4,"jobs.go:52",#[⟨28,.data⟩,⟨30,.data⟩,⟨26,.chain⟩,⟨26,.guard⟩],some (26,true)⟩,⟨some 37,.pick (.tmp 31) (.tmp 36) (.const (.bool false)),4,"jobs.go:52",#[⟨26,.data⟩,⟨31,.data⟩],none⟩,⟨some 4,.assign (.tmp 37),4,"jobs.go:52",#[⟨32,.data⟩,⟨31,.chain⟩,⟨0,.phase⟩,⟨1,.phase⟩,⟨2,.phase⟩,⟨3,.phase⟩,⟨4,.phase⟩,⟨5,.phase⟩,⟨6,.phase⟩,⟨7,.phase⟩,⟨8,.phase⟩,⟨9,.phase⟩,⟨10,.phase⟩,⟨11,.phase⟩,⟨12,.phase⟩,⟨13,.phase⟩,⟨14,.phase⟩,⟨15,.phase⟩,⟨16,.phase⟩,⟨17,.phase⟩,⟨18,.phase⟩,⟨19,.phase⟩,⟨20,.phase⟩,⟨21,.phase⟩,⟨22,.phase⟩,⟨23,.phase⟩,⟨24,.phase⟩,⟨25,.phase⟩,⟨26,.phase⟩,⟨27,.phase⟩,⟨28,.phase⟩,⟨29,.phase⟩,⟨30,.phase⟩,⟨31,.phase⟩,⟨32,.phase⟩],none⟩] false) .ret := by kernel_rfl
set_option maxHeartbeats 2000000 in
set_option maxRecDepth 100000 in
theorem sameJobs_any (J : Jb) (a b : Option Addr) (n c d : Nat) (w : World) (hn : n = J.sh.length) (hm : n ≤ 1000) (ha : Rg w w.heap.size a J.sh) (hb : Rg w w.heap.size b J.sh) :
    Calls Tryz.prog 13 #[.agg (jobC J (.slice a n c)),.agg (jobC J (.slice b n d))] w fun e w' => e = .returned (.bool true) ∧ Below w.heap.size w w' := by
  have Hn := hidMk hn
  have Ha := hidMk ha
  have Hb := hidMk hb
  clear hn ha hb
  go_enter Tryz.func13,Tryz.ntmps13
  show Code.wp Tryz.prog sjbody _ _ _
  rw [sjbody_eq]
  go_wp2_with fail
  rw [sjrest1_eq]
  refine wp_seq_k fun K0 hK0 => ?_
  have b0 : Bk ((w.alloc (.cells (jobC J (.slice a n c)) 30)).alloc (.cells (jobC J (.slice b n d)) 30)) w.heap.size 30 (jobC J (.slice a n c)) := (Bk.new w _ _).alloc _
  have b1 : Bk ((w.alloc (.cells (jobC J (.slice a n c)) 30)).alloc (.cells (jobC J (.slice b n d)) 30)) (w.heap.size + 1) 30 (jobC J (.slice b n d)) := Bk.newAt _ _ _ _ (by simp)
  have hW : Below w.heap.size w ((w.alloc (.cells (jobC J (.slice a n c)) 30)).alloc (.cells (jobC J (.slice b n d)) 30)) := ((Below.refl _ _).alloc (Nat.le_refl _) _).alloc (by simp) _
  generalize hw1 : (w.alloc (.cells (jobC J (.slice a n c)) 30)).alloc (.cells (jobC J (.slice b n d)) 30) = w1 at b0 b1 hW ⊢
  clear hw1
  have hz := hW.size
  refine wp_region_l [0,1,2,3,4,5,6,7,8,9,10,11,12,13,14,15,16,17,18,19,20,21,22,23,24,25,26,27,28,29,30,31,32,33] (by kernel_rfl) ?_
  refine opsL_take (v := ?_) rfl (by rfl) ?_ ?_
  rotate_left
  · (skip; go_simp <;> with_reducible rfl)
  (try simp only [Act.put,aT,aZ,aS])
  refine opsL_take (v := ?_) rfl (by rfl) ?_ ?_
  rotate_left
  · ((have c0 := b0.at_ 0 (.int .i64 J.p1) rfl; have c1 := b0.at_ 1 (.int .i64 J.p2) rfl; have c2 := b0.at_ 2 (.int .i64 J.t1) rfl; have c3 := b0.at_ 3 (.int .i64 J.t2) rfl; have c4 := b0.at_ 4 (.int .i64 J.r1) rfl; have c5 := b0.at_ 5 (.int .i64 J.r2) rfl; have c6 := b0.at_ 6 (.int .i64 J.u1) rfl; have c7 := b0.at_ 7 (.int .i64 J.u2) rfl; have c8 := b0.at_ 8 (.int .i64 J.d1) rfl; have c9 := b0.at_ 9 (.int .i64 J.d2) rfl; have c10 := b0.at_ 10 (.int .i64 J.x1) rfl; have c11 := b0.at_ 11 (.int .i64 J.x2) rfl; have c12 := b0.at_ 12 (.int .i64 J.y1) rfl; have c13 := b0.at_ 13 (.int .i64 J.y2) rfl; have c14 := b0.at_ 14 (.int .i64 J.le) rfl; have c15 := b0.at_ 15 (.slice a n c) rfl; have c16 := b0.at_ 16 (.int .i64 J.wi) rfl; have c17 := b0.at_ 17 (.int .i64 J.me) rfl; have d0 := b1.at_ 0 (.int .i64 J.p1) rfl; have d1 := b1.at_ 1 (.int .i64 J.p2) rfl; have d2 := b1.at_ 2 (.int .i64 J.t1) rfl; have d3 := b1.at_ 3 (.int .i64 J.t2) rfl; have d4 := b1.at_ 4 (.int .i64 J.r1) rfl; have d5 := b1.at_ 5 (.int .i64 J.r2) rfl; have d6 := b1.at_ 6 (.int .i64 J.u1) rfl; have d7 := b1.at_ 7 (.int .i64 J.u2) rfl; have d8 := b1.at_ 8 (.int .i64 J.d1) rfl; have d9 := b1.at_ 9 (.int .i64 J.d2) rfl; have d10 := b1.at_ 10 (.int .i64 J.x1) rfl; have d11 := b1.at_ 11 (.int .i64 J.x2) rfl; have d12 := b1.at_ 12 (.int .i64 J.y1) rfl; have d13 := b1.at_ 13 (.int .i64 J.y2) rfl; have d14 := b1.at_ 14 (.int .i64 J.le) rfl; have d15 := b1.at_ 15 (.slice b n d) rfl; have d16 := b1.at_ 16 (.int .i64 J.wi) rfl; have d17 := b1.at_ 17 (.int .i64 J.me) rfl); go_simp <;> with_reducible rfl)
  (try simp only [Act.put,aT,aZ,aS])
  refine opsL_take (v := ?_) rfl (by rfl) ?_ ?_
  rotate_left
  · (skip; go_simp <;> with_reducible rfl)
  (try simp only [Act.put,aT,aZ,aS])
  refine opsL_take (v := ?_) rfl (by rfl) ?_ ?_
  rotate_left
  · ((have c0 := b0.at_ 0 (.int .i64 J.p1) rfl; have c1 := b0.at_ 1 (.int .i64 J.p2) rfl; have c2 := b0.at_ 2 (.int .i64 J.t1) rfl; have c3 := b0.at_ 3 (.int .i64 J.t2) rfl; have c4 := b0.at_ 4 (.int .i64 J.r1) rfl; have c5 := b0.at_ 5 (.int .i64 J.r2) rfl; have c6 := b0.at_ 6 (.int .i64 J.u1) rfl; have c7 := b0.at_ 7 (.int .i64 J.u2) rfl; have c8 := b0.at_ 8 (.int .i64 J.d1) rfl; have c9 := b0.at_ 9 (.int .i64 J.d2) rfl; have c10 := b0.at_ 10 (.int .i64 J.x1) rfl; have c11 := b0.at_ 11 (.int .i64 J.x2) rfl; have c12 := b0.at_ 12 (.int .i64 J.y1) rfl; have c13 := b0.at_ 13 (.int .i64 J.y2) rfl; have c14 := b0.at_ 14 (.int .i64 J.le) rfl; have c15 := b0.at_ 15 (.slice a n c) rfl; have c16 := b0.at_ 16 (.int .i64 J.wi) rfl; have c17 := b0.at_ 17 (.int .i64 J.me) rfl; have d0 := b1.at_ 0 (.int .i64 J.p1) rfl; have d1 := b1.at_ 1 (.int .i64 J.p2) rfl; have d2 := b1.at_ 2 (.int .i64 J.t1) rfl; have d3 := b1.at_ 3 (.int .i64 J.t2) rfl; have d4 := b1.at_ 4 (.int .i64 J.r1) rfl; have d5 := b1.at_ 5 (.int .i64 J.r2) rfl; have d6 := b1.at_ 6 (.int .i64 J.u1) rfl; have d7 := b1.at_ 7 (.int .i64 J.u2) rfl; have d8 := b1.at_ 8 (.int .i64 J.d1) rfl; have d9 := b1.at_ 9 (.int .i64 J.d2) rfl; have d10 := b1.at_ 10 (.int .i64 J.x1) rfl; have d11 := b1.at_ 11 (.int .i64 J.x2) rfl; have d12 := b1.at_ 12 (.int .i64 J.y1) rfl; have d13 := b1.at_ 13 (.int .i64 J.y2) rfl; have d14 := b1.at_ 14 (.int .i64 J.le) rfl; have d15 := b1.at_ 15 (.slice b n d) rfl; have d16 := b1.at_ 16 (.int .i64 J.wi) rfl; have d17 := b1.at_ 17 (.int .i64 J.me) rfl); go_simp <;> with_reducible rfl)
  (try simp only [Act.put,aT,aZ,aS])
  refine opsL_take (v := ?_) rfl (by rfl) ?_ ?_
  rotate_left
  · ((have qT := eqlT J.p1 J.p2 J.t1 J.t2 J.r1 J.r2; have qF := eqlF J.u1 J.u2 J.d1 J.d2 J.x1 J.x2 J.y1 J.y2 J.le); go_simp <;> with_reducible rfl)
  (try simp only [Act.put,aT,aZ,aS])
  refine opsL_take (v := ?_) rfl (by rfl) ?_ ?_
  rotate_left
  · (skip; go_simp <;> with_reducible rfl)
  (try simp only [Act.put,aT,aZ,aS])
  refine opsL_take (v := ?_) rfl (by rfl) ?_ ?_
  rotate_left
  · (skip; go_simp <;> with_reducible rfl)
  (try simp only [Act.put,aT,aZ,aS])
  refine opsL_take (v := ?_) rfl (by rfl) ?_ ?_
  rotate_left
  · ((have c0 := b0.at_ 0 (.int .i64 J.p1) rfl; have c1 := b0.at_ 1 (.int .i64 J.p2) rfl; have c2 := b0.at_ 2 (.int .i64 J.t1) rfl; have c3 := b0.at_ 3 (.int .i64 J.t2) rfl; have c4 := b0.at_ 4 (.int .i64 J.r1) rfl; have c5 := b0.at_ 5 (.int .i64 J.r2) rfl; have c6 := b0.at_ 6 (.int .i64 J.u1) rfl; have c7 := b0.at_ 7 (.int .i64 J.u2) rfl; have c8 := b0.at_ 8 (.int .i64 J.d1) rfl; have c9 := b0.at_ 9 (.int .i64 J.d2) rfl; have c10 := b0.at_ 10 (.int .i64 J.x1) rfl; have c11 := b0.at_ 11 (.int .i64 J.x2) rfl; have c12 := b0.at_ 12 (.int .i64 J.y1) rfl; have c13 := b0.at_ 13 (.int .i64 J.y2) rfl; have c14 := b0.at_ 14 (.int .i64 J.le) rfl; have c15 := b0.at_ 15 (.slice a n c) rfl; have c16 := b0.at_ 16 (.int .i64 J.wi) rfl; have c17 := b0.at_ 17 (.int .i64 J.me) rfl; have d0 := b1.at_ 0 (.int .i64 J.p1) rfl; have d1 := b1.at_ 1 (.int .i64 J.p2) rfl; have d2 := b1.at_ 2 (.int .i64 J.t1) rfl; have d3 := b1.at_ 3 (.int .i64 J.t2) rfl; have d4 := b1.at_ 4 (.int .i64 J.r1) rfl; have d5 := b1.at_ 5 (.int .i64 J.r2) rfl; have d6 := b1.at_ 6 (.int .i64 J.u1) rfl; have d7 := b1.at_ 7 (.int .i64 J.u2) rfl; have d8 := b1.at_ 8 (.int .i64 J.d1) rfl; have d9 := b1.at_ 9 (.int .i64 J.d2) rfl; have d10 := b1.at_ 10 (.int .i64 J.x1) rfl; have d11 := b1.at_ 11 (.int .i64 J.x2) rfl; have d12 := b1.at_ 12 (.int .i64 J.y1) rfl; have d13 := b1.at_ 13 (.int .i64 J.y2) rfl; have d14 := b1.at_ 14 (.int .i64 J.le) rfl; have d15 := b1.at_ 15 (.slice b n d) rfl; have d16 := b1.at_ 16 (.int .i64 J.wi) rfl; have d17 := b1.at_ 17 (.int .i64 J.me) rfl); go_simp <;> with_reducible rfl)
  (try simp only [Act.put,aT,aZ,aS])
  refine opsL_take (v := ?_) rfl (by rfl) ?_ ?_
  rotate_left
  · (skip; go_simp <;> with_reducible rfl)
  (try simp only [Act.put,aT,aZ,aS])
  refine opsL_take (v := ?_) rfl (by rfl) ?_ ?_
  rotate_left
  · ((have c0 := b0.at_ 0 (.int .i64 J.p1) rfl; have c1 := b0.at_ 1 (.int .i64 J.p2) rfl; have c2 := b0.at_ 2 (.int .i64 J.t1) rfl; have c3 := b0.at_ 3 (.int .i64 J.t2) rfl; have c4 := b0.at_ 4 (.int .i64 J.r1) rfl; have c5 := b0.at_ 5 (.int .i64 J.r2) rfl; have c6 := b0.at_ 6 (.int .i64 J.u1) rfl; have c7 := b0.at_ 7 (.int .i64 J.u2) rfl; have c8 := b0.at_ 8 (.int .i64 J.d1) rfl; have c9 := b0.at_ 9 (.int .i64 J.d2) rfl; have c10 := b0.at_ 10 (.int .i64 J.x1) rfl; have c11 := b0.at_ 11 (.int .i64 J.x2) rfl; have c12 := b0.at_ 12 (.int .i64 J.y1) rfl; have c13 := b0.at_ 13 (.int .i64 J.y2) rfl; have c14 := b0.at_ 14 (.int .i64 J.le) rfl; have c15 := b0.at_ 15 (.slice a n c) rfl; have c16 := b0.at_ 16 (.int .i64 J.wi) rfl; have c17 := b0.at_ 17 (.int .i64 J.me) rfl; have d0 := b1.at_ 0 (.int .i64 J.p1) rfl; have d1 := b1.at_ 1 (.int .i64 J.p2) rfl; have d2 := b1.at_ 2 (.int .i64 J.t1) rfl; have d3 := b1.at_ 3 (.int .i64 J.t2) rfl; have d4 := b1.at_ 4 (.int .i64 J.r1) rfl; have d5 := b1.at_ 5 (.int .i64 J.r2) rfl; have d6 := b1.at_ 6 (.int .i64 J.u1) rfl; have d7 := b1.at_ 7 (.int .i64 J.u2) rfl; have d8 := b1.at_ 8 (.int .i64 J.d1) rfl; have d9 := b1.at_ 9 (.int .i64 J.d2) rfl; have d10 := b1.at_ 10 (.int .i64 J.x1) rfl; have d11 := b1.at_ 11 (.int .i64 J.x2) rfl; have d12 := b1.at_ 12 (.int .i64 J.y1) rfl; have d13 := b1.at_ 13 (.int .i64 J.y2) rfl; have d14 := b1.at_ 14 (.int .i64 J.le) rfl; have d15 := b1.at_ 15 (.slice b n d) rfl; have d16 := b1.at_ 16 (.int .i64 J.wi) rfl; have d17 := b1.at_ 17 (.int .i64 J.me) rfl); go_simp <;> with_reducible rfl)
  (try simp only [Act.put,aT,aZ,aS])
  refine opsL_take (v := ?_) rfl (by rfl) ?_ ?_
  rotate_left
  · ((have qT := eqlT J.p1 J.p2 J.t1 J.t2 J.r1 J.r2; have qF := eqlF J.u1 J.u2 J.d1 J.d2 J.x1 J.x2 J.y1 J.y2 J.le); go_simp <;> with_reducible rfl)
  (try simp only [Act.put,aT,aZ,aS])
  refine opsL_take (v := ?_) rfl (by rfl) ?_ ?_
  rotate_left
  · (skip; go_simp <;> with_reducible rfl)
  (try simp only [Act.put,aT,aZ,aS])
  refine opsL_take (v := ?_) rfl (by rfl) ?_ ?_
  rotate_left
  · (skip; go_simp <;> with_reducible rfl)
  (try simp only [Act.put,aT,aZ,aS])
  refine opsL_take (v := ?_) rfl (by rfl) ?_ ?_
  rotate_left
  · (skip; go_simp <;> with_reducible rfl)
  (try simp only [Act.put,aT,aZ,aS])
  refine opsL_take (v := ?_) rfl (by rfl) ?_ ?_
  rotate_left
  · ((have c0 := b0.at_ 0 (.int .i64 J.p1) rfl; have c1 := b0.at_ 1 (.int .i64 J.p2) rfl; have c2 := b0.at_ 2 (.int .i64 J.t1) rfl; have c3 := b0.at_ 3 (.int .i64 J.t2) rfl; have c4 := b0.at_ 4 (.int .i64 J.r1) rfl; have c5 := b0.at_ 5 (.int .i64 J.r2) rfl; have c6 := b0.at_ 6 (.int .i64 J.u1) rfl; have c7 := b0.at_ 7 (.int .i64 J.u2) rfl; have c8 := b0.at_ 8 (.int .i64 J.d1) rfl; have c9 := b0.at_ 9 (.int .i64 J.d2) rfl; have c10 := b0.at_ 10 (.int .i64 J.x1) rfl; have c11 := b0.at_ 11 (.int .i64 J.x2) rfl; have c12 := b0.at_ 12 (.int .i64 J.y1) rfl; have c13 := b0.at_ 13 (.int .i64 J.y2) rfl; have c14 := b0.at_ 14 (.int .i64 J.le) rfl; have c15 := b0.at_ 15 (.slice a n c) rfl; have c16 := b0.at_ 16 (.int .i64 J.wi) rfl; have c17 := b0.at_ 17 (.int .i64 J.me) rfl; have d0 := b1.at_ 0 (.int .i64 J.p1) rfl; have d1 := b1.at_ 1 (.int .i64 J.p2) rfl; have d2 := b1.at_ 2 (.int .i64 J.t1) rfl; have d3 := b1.at_ 3 (.int .i64 J.t2) rfl; have d4 := b1.at_ 4 (.int .i64 J.r1) rfl; have d5 := b1.at_ 5 (.int .i64 J.r2) rfl; have d6 := b1.at_ 6 (.int .i64 J.u1) rfl; have d7 := b1.at_ 7 (.int .i64 J.u2) rfl; have d8 := b1.at_ 8 (.int .i64 J.d1) rfl; have d9 := b1.at_ 9 (.int .i64 J.d2) rfl; have d10 := b1.at_ 10 (.int .i64 J.x1) rfl; have d11 := b1.at_ 11 (.int .i64 J.x2) rfl; have d12 := b1.at_ 12 (.int .i64 J.y1) rfl; have d13 := b1.at_ 13 (.int .i64 J.y2) rfl; have d14 := b1.at_ 14 (.int .i64 J.le) rfl; have d15 := b1.at_ 15 (.slice b n d) rfl; have d16 := b1.at_ 16 (.int .i64 J.wi) rfl; have d17 := b1.at_ 17 (.int .i64 J.me) rfl); go_simp <;> with_reducible rfl)
  (try simp only [Act.put,aT,aZ,aS])
  refine opsL_take (v := ?_) rfl (by rfl) ?_ ?_
  rotate_left
  · (skip; go_simp <;> with_reducible rfl)
  (try simp only [Act.put,aT,aZ,aS])
  refine opsL_take (v := ?_) rfl (by rfl) ?_ ?_
  rotate_left
  · ((have c0 := b0.at_ 0 (.int .i64 J.p1) rfl; have c1 := b0.at_ 1 (.int .i64 J.p2) rfl; have c2 := b0.at_ 2 (.int .i64 J.t1) rfl; have c3 := b0.at_ 3 (.int .i64 J.t2) rfl; have c4 := b0.at_ 4 (.int .i64 J.r1) rfl; have c5 := b0.at_ 5 (.int .i64 J.r2) rfl; have c6 := b0.at_ 6 (.int .i64 J.u1) rfl; have c7 := b0.at_ 7 (.int .i64 J.u2) rfl; have c8 := b0.at_ 8 (.int .i64 J.d1) rfl; have c9 := b0.at_ 9 (.int .i64 J.d2) rfl; have c10 := b0.at_ 10 (.int .i64 J.x1) rfl; have c11 := b0.at_ 11 (.int .i64 J.x2) rfl; have c12 := b0.at_ 12 (.int .i64 J.y1) rfl; have c13 := b0.at_ 13 (.int .i64 J.y2) rfl; have c14 := b0.at_ 14 (.int .i64 J.le) rfl; have c15 := b0.at_ 15 (.slice a n c) rfl; have c16 := b0.at_ 16 (.int .i64 J.wi) rfl; have c17 := b0.at_ 17 (.int .i64 J.me) rfl; have d0 := b1.at_ 0 (.int .i64 J.p1) rfl; have d1 := b1.at_ 1 (.int .i64 J.p2) rfl; have d2 := b1.at_ 2 (.int .i64 J.t1) rfl; have d3 := b1.at_ 3 (.int .i64 J.t2) rfl; have d4 := b1.at_ 4 (.int .i64 J.r1) rfl; have d5 := b1.at_ 5 (.int .i64 J.r2) rfl; have d6 := b1.at_ 6 (.int .i64 J.u1) rfl; have d7 := b1.at_ 7 (.int .i64 J.u2) rfl; have d8 := b1.at_ 8 (.int .i64 J.d1) rfl; have d9 := b1.at_ 9 (.int .i64 J.d2) rfl; have d10 := b1.at_ 10 (.int .i64 J.x1) rfl; have d11 := b1.at_ 11 (.int .i64 J.x2) rfl; have d12 := b1.at_ 12 (.int .i64 J.y1) rfl; have d13 := b1.at_ 13 (.int .i64 J.y2) rfl; have d14 := b1.at_ 14 (.int .i64 J.le) rfl; have d15 := b1.at_ 15 (.slice b n d) rfl; have d16 := b1.at_ 16 (.int .i64 J.wi) rfl; have d17 := b1.at_ 17 (.int .i64 J.me) rfl); go_simp <;> with_reducible rfl)
  (try simp only [Act.put,aT,aZ,aS])
  refine opsL_take (v := ?_) rfl (by rfl) ?_ ?_
  rotate_left
  · ((have qT := eqlT J.p1 J.p2 J.t1 J.t2 J.r1 J.r2; have qF := eqlF J.u1 J.u2 J.d1 J.d2 J.x1 J.x2 J.y1 J.y2 J.le); go_simp <;> with_reducible rfl)
  (try simp only [Act.put,aT,aZ,aS])
  refine opsL_take (v := ?_) rfl (by rfl) ?_ ?_
  rotate_left
  · (skip; go_simp <;> with_reducible rfl)
  (try simp only [Act.put,aT,aZ,aS])
  refine opsL_take (v := ?_) rfl (by rfl) ?_ ?_
  rotate_left
  · (skip; go_simp <;> with_reducible rfl)
  (try simp only [Act.put,aT,aZ,aS])
  refine opsL_take (v := ?_) rfl (by rfl) ?_ ?_
  rotate_left
  · (skip; go_simp <;> with_reducible rfl)
  (try simp only [Act.put,aT,aZ,aS])
  refine opsL_take (v := ?_) rfl (by rfl) ?_ ?_
  rotate_left
  · ((have c0 := b0.at_ 0 (.int .i64 J.p1) rfl; have c1 := b0.at_ 1 (.int .i64 J.p2) rfl; have c2 := b0.at_ 2 (.int .i64 J.t1) rfl; have c3 := b0.at_ 3 (.int .i64 J.t2) rfl; have c4 := b0.at_ 4 (.int .i64 J.r1) rfl; have c5 := b0.at_ 5 (.int .i64 J.r2) rfl; have c6 := b0.at_ 6 (.int .i64 J.u1) rfl; have c7 := b0.at_ 7 (.int .i64 J.u2) rfl; have c8 := b0.at_ 8 (.int .i64 J.d1) rfl; have c9 := b0.at_ 9 (.int .i64 J.d2) rfl; have c10 := b0.at_ 10 (.int .i64 J.x1) rfl; have c11 := b0.at_ 11 (.int .i64 J.x2) rfl; have c12 := b0.at_ 12 (.int .i64 J.y1) rfl; have c13 := b0.at_ 13 (.int .i64 J.y2) rfl; have c14 := b0.at_ 14 (.int .i64 J.le) rfl; have c15 := b0.at_ 15 (.slice a n c) rfl; have c16 := b0.at_ 16 (.int .i64 J.wi) rfl; have c17 := b0.at_ 17 (.int .i64 J.me) rfl; have d0 := b1.at_ 0 (.int .i64 J.p1) rfl; have d1 := b1.at_ 1 (.int .i64 J.p2) rfl; have d2 := b1.at_ 2 (.int .i64 J.t1) rfl; have d3 := b1.at_ 3 (.int .i64 J.t2) rfl; have d4 := b1.at_ 4 (.int .i64 J.r1) rfl; have d5 := b1.at_ 5 (.int .i64 J.r2) rfl; have d6 := b1.at_ 6 (.int .i64 J.u1) rfl; have d7 := b1.at_ 7 (.int .i64 J.u2) rfl; have d8 := b1.at_ 8 (.int .i64 J.d1) rfl; have d9 := b1.at_ 9 (.int .i64 J.d2) rfl; have d10 := b1.at_ 10 (.int .i64 J.x1) rfl; have d11 := b1.at_ 11 (.int .i64 J.x2) rfl; have d12 := b1.at_ 12 (.int .i64 J.y1) rfl; have d13 := b1.at_ 13 (.int .i64 J.y2) rfl; have d14 := b1.at_ 14 (.int .i64 J.le) rfl; have d15 := b1.at_ 15 (.slice b n d) rfl; have d16 := b1.at_ 16 (.int .i64 J.wi) rfl; have d17 := b1.at_ 17 (.int .i64 J.me) rfl); go_simp <;> with_reducible rfl)
  (try simp only [Act.put,aT,aZ,aS])
  refine opsL_take (v := ?_) rfl (by rfl) ?_ ?_
  rotate_left
  · (skip; go_simp <;> with_reducible rfl)
  (try simp only [Act.put,aT,aZ,aS])
  refine opsL_take (v := ?_) rfl (by rfl) ?_ ?_
  rotate_left
  · ((have c0 := b0.at_ 0 (.int .i64 J.p1) rfl; have c1 := b0.at_ 1 (.int .i64 J.p2) rfl; have c2 := b0.at_ 2 (.int .i64 J.t1) rfl; have c3 := b0.at_ 3 (.int .i64 J.t2) rfl; have c4 := b0.at_ 4 (.int .i64 J.r1) rfl; have c5 := b0.at_ 5 (.int .i64 J.r2) rfl; have c6 := b0.at_ 6 (.int .i64 J.u1) rfl; have c7 := b0.at_ 7 (.int .i64 J.u2) rfl; have c8 := b0.at_ 8 (.int .i64 J.d1) rfl; have c9 := b0.at_ 9 (.int .i64 J.d2) rfl; have c10 := b0.at_ 10 (.int .i64 J.x1) rfl; have c11 := b0.at_ 11 (.int .i64 J.x2) rfl; have c12 := b0.at_ 12 (.int .i64 J.y1) rfl; have c13 := b0.at_ 13 (.int .i64 J.y2) rfl; have c14 := b0.at_ 14 (.int .i64 J.le) rfl; have c15 := b0.at_ 15 (.slice a n c) rfl; have c16 := b0.at_ 16 (.int .i64 J.wi) rfl; have c17 := b0.at_ 17 (.int .i64 J.me) rfl; have d0 := b1.at_ 0 (.int .i64 J.p1) rfl; have d1 := b1.at_ 1 (.int .i64 J.p2) rfl; have d2 := b1.at_ 2 (.int .i64 J.t1) rfl; have d3 := b1.at_ 3 (.int .i64 J.t2) rfl; have d4 := b1.at_ 4 (.int .i64 J.r1) rfl; have d5 := b1.at_ 5 (.int .i64 J.r2) rfl; have d6 := b1.at_ 6 (.int .i64 J.u1) rfl; have d7 := b1.at_ 7 (.int .i64 J.u2) rfl; have d8 := b1.at_ 8 (.int .i64 J.d1) rfl; have d9 := b1.at_ 9 (.int .i64 J.d2) rfl; have d10 := b1.at_ 10 (.int .i64 J.x1) rfl; have d11 := b1.at_ 11 (.int .i64 J.x2) rfl; have d12 := b1.at_ 12 (.int .i64 J.y1) rfl; have d13 := b1.at_ 13 (.int .i64 J.y2) rfl; have d14 := b1.at_ 14 (.int .i64 J.le) rfl; have d15 := b1.at_ 15 (.slice b n d) rfl; have d16 := b1.at_ 16 (.int .i64 J.wi) rfl; have d17 := b1.at_ 17 (.int .i64 J.me) rfl); go_simp <;> with_reducible rfl)
  (try simp only [Act.put,aT,aZ,aS])
  refine opsL_take (v := ?_) rfl (by rfl) ?_ ?_
  rotate_left
  · ((have qT := eqlT J.p1 J.p2 J.t1 J.t2 J.r1 J.r2; have qF := eqlF J.u1 J.u2 J.d1 J.d2 J.x1 J.x2 J.y1 J.y2 J.le); go_simp <;> with_reducible rfl)
  (try simp only [Act.put,aT,aZ,aS])
  refine opsL_take (v := ?_) rfl (by rfl) ?_ ?_
  rotate_left
  · (skip; go_simp <;> with_reducible rfl)
  (try simp only [Act.put,aT,aZ,aS])
  refine opsL_take (v := ?_) rfl (by rfl) ?_ ?_
  rotate_left
  · (skip; go_simp <;> with_reducible rfl)
  (try simp only [Act.put,aT,aZ,aS])
  refine opsL_take (v := ?_) rfl (by rfl) ?_ ?_
  rotate_left
  · (skip; go_simp <;> with_reducible rfl)
  (try simp only [Act.put,aT,aZ,aS])
  refine opsL_take (v := ?_) rfl (by rfl) ?_ ?_
  rotate_left
  · ((have c0 := b0.at_ 0 (.int .i64 J.p1) rfl; have c1 := b0.at_ 1 (.int .i64 J.p2) rfl; have c2 := b0.at_ 2 (.int .i64 J.t1) rfl; have c3 := b0.at_ 3 (.int .i64 J.t2) rfl; have c4 := b0.at_ 4 (.int .i64 J.r1) rfl; have c5 := b0.at_ 5 (.int .i64 J.r2) rfl; have c6 := b0.at_ 6 (.int .i64 J.u1) rfl; have c7 := b0.at_ 7 (.int .i64 J.u2) rfl; have c8 := b0.at_ 8 (.int .i64 J.d1) rfl; have c9 := b0.at_ 9 (.int .i64 J.d2) rfl; have c10 := b0.at_ 10 (.int .i64 J.x1) rfl; have c11 := b0.at_ 11 (.int .i64 J.x2) rfl; have c12 := b0.at_ 12 (.int .i64 J.y1) rfl; have c13 := b0.at_ 13 (.int .i64 J.y2) rfl; have c14 := b0.at_ 14 (.int .i64 J.le) rfl; have c15 := b0.at_ 15 (.slice a n c) rfl; have c16 := b0.at_ 16 (.int .i64 J.wi) rfl; have c17 := b0.at_ 17 (.int .i64 J.me) rfl; have d0 := b1.at_ 0 (.int .i64 J.p1) rfl; have d1 := b1.at_ 1 (.int .i64 J.p2) rfl; have d2 := b1.at_ 2 (.int .i64 J.t1) rfl; have d3 := b1.at_ 3 (.int .i64 J.t2) rfl; have d4 := b1.at_ 4 (.int .i64 J.r1) rfl; have d5 := b1.at_ 5 (.int .i64 J.r2) rfl; have d6 := b1.at_ 6 (.int .i64 J.u1) rfl; have d7 := b1.at_ 7 (.int .i64 J.u2) rfl; have d8 := b1.at_ 8 (.int .i64 J.d1) rfl; have d9 := b1.at_ 9 (.int .i64 J.d2) rfl; have d10 := b1.at_ 10 (.int .i64 J.x1) rfl; have d11 := b1.at_ 11 (.int .i64 J.x2) rfl; have d12 := b1.at_ 12 (.int .i64 J.y1) rfl; have d13 := b1.at_ 13 (.int .i64 J.y2) rfl; have d14 := b1.at_ 14 (.int .i64 J.le) rfl; have d15 := b1.at_ 15 (.slice b n d) rfl; have d16 := b1.at_ 16 (.int .i64 J.wi) rfl; have d17 := b1.at_ 17 (.int .i64 J.me) rfl); go_simp <;> with_reducible rfl)
  (try simp only [Act.put,aT,aZ,aS])
  refine opsL_take (v := ?_) rfl (by rfl) ?_ ?_
  rotate_left
  · (skip; go_simp <;> with_reducible rfl)
  (try simp only [Act.put,aT,aZ,aS])
  refine opsL_take (v := ?_) rfl (by rfl) ?_ ?_
  rotate_left
  · ((have c0 := b0.at_ 0 (.int .i64 J.p1) rfl; have c1 := b0.at_ 1 (.int .i64 J.p2) rfl; have c2 := b0.at_ 2 (.int .i64 J.t1) rfl; have c3 := b0.at_ 3 (.int .i64 J.t2) rfl; have c4 := b0.at_ 4 (.int .i64 J.r1) rfl; have c5 := b0.at_ 5 (.int .i64 J.r2) rfl; have c6 := b0.at_ 6 (.int .i64 J.u1) rfl; have c7 := b0.at_ 7 (.int .i64 J.u2) rfl; have c8 := b0.at_ 8 (.int .i64 J.d1) rfl; have c9 := b0.at_ 9 (.int .i64 J.d2) rfl; have c10 := b0.at_ 10 (.int .i64 J.x1) rfl; have c11 := b0.at_ 11 (.int .i64 J.x2) rfl; have c12 := b0.at_ 12 (.int .i64 J.y1) rfl; have c13 := b0.at_ 13 (.int .i64 J.y2) rfl; have c14 := b0.at_ 14 (.int .i64 J.le) rfl; have c15 := b0.at_ 15 (.slice a n c) rfl; have c16 := b0.at_ 16 (.int .i64 J.wi) rfl; have c17 := b0.at_ 17 (.int .i64 J.me) rfl; have d0 := b1.at_ 0 (.int .i64 J.p1) rfl; have d1 := b1.at_ 1 (.int .i64 J.p2) rfl; have d2 := b1.at_ 2 (.int .i64 J.t1) rfl; have d3 := b1.at_ 3 (.int .i64 J.t2) rfl; have d4 := b1.at_ 4 (.int .i64 J.r1) rfl; have d5 := b1.at_ 5 (.int .i64 J.r2) rfl; have d6 := b1.at_ 6 (.int .i64 J.u1) rfl; have d7 := b1.at_ 7 (.int .i64 J.u2) rfl; have d8 := b1.at_ 8 (.int .i64 J.d1) rfl; have d9 := b1.at_ 9 (.int .i64 J.d2) rfl; have d10 := b1.at_ 10 (.int .i64 J.x1) rfl; have d11 := b1.at_ 11 (.int .i64 J.x2) rfl; have d12 := b1.at_ 12 (.int .i64 J.y1) rfl; have d13 := b1.at_ 13 (.int .i64 J.y2) rfl; have d14 := b1.at_ 14 (.int .i64 J.le) rfl; have d15 := b1.at_ 15 (.slice b n d) rfl; have d16 := b1.at_ 16 (.int .i64 J.wi) rfl; have d17 := b1.at_ 17 (.int .i64 J.me) rfl); go_simp <;> with_reducible rfl)
  (try simp only [Act.put,aT,aZ,aS])
  refine opsL_step rfl (fun K hK => ?_)
  go_simp
  go_at_call 39
  refine (sameRanges_any a b n c d J.sh _ Hn.out hm (Ha.out.up hW) (Hb.out.up hW)).mono ?_
  rintro e w2 ⟨rfl,hb2⟩
  have HB2 := hidMk (hW.trans (hb2.mono hz))
  clear hb2
  go_wp2_with fail
  refine hK.out _ _ ?_
  clear hK K
  (try simp only [Act.put,aT,aZ,aS])
  refine opsL_take (v := ?_) rfl (by rfl) ?_ ?_
  rotate_left
  · (skip; go_simp <;> with_reducible rfl)
  (try simp only [Act.put,aT,aZ,aS])
  refine opsL_take (v := ?_) rfl (by rfl) ?_ ?_
  rotate_left
  · (skip; go_simp <;> with_reducible rfl)
  (try simp only [Act.put,aT,aZ,aS])
  refine hK0 _ _ ?_
  refine wp_ret ?_
  go_ret
  exact ⟨rfl,HB2.out⟩
end Go.Proofs.YtljefjngmembkaaGreatDoor
/- The contract of NewPot: a new block with one number; nothing else is changed. -/
namespace Go.Proofs.YtljefjngmembkaaGreatDoor
set_option linter.all false
open Go.RowKit
set_option maxHeartbeats 1000000 in
theorem newPot_any (a : Option Addr) (n c : Nat) (l : List Int) (w : World) (hn : n = l.length) (hm : n ≤ 9223372036854775807) (h : Is w w.heap.size a l) :
    Calls Tryz.prog 7 #[.slice a n c] w fun e w' => ∃ s t,e = .returned (.pointer (some ⟨w.heap.size,0,none⟩)) ∧ Bk w' w.heap.size t #[.int .u64 s] ∧ Below w.heap.size w w' := by
  have Hn : Hid (n = l.length) := hn
  have Hh : Hid (Is w w.heap.size a l) := h
  clear hn h
  go_enter Tryz.func7,Tryz.ntmps7
  go_wp2
  go_loopw [4] (fun i wr => ∃ (k : Nat) (s : Int) (t : TypeId),k ≤ n ∧ i = .int .i64 k ∧ Bk wr w.heap.size t #[.int .u64 s] ∧ Below w.heap.size w wr) (fun i _ => n - (intOf i).toNat)
  case atStart => exact ⟨0,_,_,Nat.zero_le _,rfl,Bk.new w _ _,(Below.refl _ _).alloc (Nat.le_refl _) _⟩
  case round =>
    obtain ⟨k,s,t,hk,rfl,hb,hB⟩ := hrel
    have c0 := hb.at_ 0 _ rfl
    have f0 := hb.free 0
    have hl := hb.lt
    by_cases hlt : k < n
    · have hkl : k < l.length := by rw [← Hn.out]; exact hlt
      obtain ⟨b,off,rfl,hbl,e0⟩ := Hh.out k l[k] (List.getElem?_eq_getElem hkl)
      replace e0 := (hB.cell (p := ⟨b,off + k,none⟩) hbl).trans e0
      obtain ⟨x,hx⟩ : ∃ x,l[k] = x := ⟨_,rfl⟩
      rw [hx] at e0
      have hne : b ≠ w.heap.size := by omega
      have hne' : w.heap.size ≠ b := by omega
      have i0 : (0 : Int) ≤ ↑k := by omega
      have i1 : (↑k : Int) < ↑n := by omega
      have HB := hidMk hB
      have Hb := hidMk hb
      clear hB hb hx hbl Hh Hn hkl
      go_wp2
      go_region
      clear e0 hne hne'
      obtain ⟨s1,hs1⟩ : ∃ s1,IntKind.u64.wrap (bits BinOp.xor IntKind.u64 s (IntKind.u64.wrap x) * 15485907386658061715) = s1 := ⟨_,rfl⟩
      rw [hs1]
      clear hs1
      go_wp2
      go_region
      go_wp2
      go_roundw
      case rel =>
        exact ⟨k + 1,_,t,by omega,by go_num,((Hb.out.put1 _).put1 _),((HB.out.setCell (Nat.le_refl _) _).setCell (Nat.le_refl _) _).drew.drew⟩
      case measure => simp [intOf]; omega
    · obtain rfl : k = n := by omega
      go_wp2
      go_ret
      exact ⟨s,t,rfl,hb,hB⟩
end Go.Proofs.YtljefjngmembkaaGreatDoor
/- The law ReedRead. -/
namespace Go.Proofs.YtljefjngmembkaaGreatDoor
set_option linter.all false
open Go.RowKit Go.Lib Go.Tx
theorem wpList_load_rowW {P : Program} {ops : Array Oper} {rest : List Oper} {o : Oper} {a : Act} {w : World} {Q : Exit → Act → World → Prop} (hw : Region.wanted o (yielded ops a.tmps) = true) (ty : TypeId) (x : Operand) (ho : o.op = .load ty x)
    (g : Nat) (hx : a.eval x = .pointer (some ⟨g,0,none⟩)) (t : TypeId) (cs : Array Value) (fr : Nat × Nat) (d : TypeDesc) (hg : w.heap[g]? = some (.cells cs t fr))
    (hu : P.underlying ty = some d) (hd : (match d with | .struct _ | .array _ _ => true | _ => false) = true) (hi : (P.info? ty).map (·.size) = some cs.size)
    (h : wpList P ops Q rest (a.put o.dst (.agg cs)) w) : wpList P ops Q (o :: rest) a w :=
  wpList_step fun K hK => by rw [if_pos hw]; exact wp_load_row ty x ho g hx t cs fr d hg hu hd hi (hK _ _ h)
theorem dec_short (u : Nat) (h : u < 1000) : (Lib.decDigits u).length ≤ 3 := by
  rw [Lib.decDigits]
  split
  · simp
  · rw [Lib.decDigits]
    split
    · simp
    · rw [Lib.decDigits]
      split
      · simp
      · omega
theorem itoa_short {n : Int} (h : -999 ≤ n ∧ n ≤ 999) : (itoa n).length ≤ 4 := by
  unfold itoa
  split
  · have := dec_short n.natAbs (by omega)
    rw [List.length_cons]
    omega
  · have := dec_short n.toNat (by omega)
    omega
theorem span_short {a b : Int} (h : -999 ≤ a ∧ a ≤ 999) (h2 : -999 ≤ b ∧ b ≤ 999) : (spanT 58 (a,b)).length ≤ 9 := by
  unfold spanT
  have := itoa_short h
  have := itoa_short h2
  simp only [List.length_append,List.length_cons]
  omega
theorem shT_short : ∀ (sh : List R2),(∀ s ∈ sh,-60 ≤ s.1 ∧ s.1 ≤ s.2 ∧ s.2 ≤ 60) → (shT sh).length ≤ 16 * sh.length
  | [],_ => Nat.le_refl _
  | s :: sh,h => by
    have ih := shT_short sh fun x hx => h x (List.mem_cons_of_mem _ hx)
    have h1 := h s List.mem_cons_self
    have h2 := span_short (a := s.1) (b := s.2) (by omega) (by omega)
    have h3 : (spanT 58 s).length ≤ 9 := h2
    rw [shT_cons,List.length_append,List.length_cons]
    unfold lineT
    rw [List.length_append,Tx.join_two,join_one,List.length_append,List.length_cons]
    simp only [shiftW,List.length_cons,List.length_nil]
    omega
theorem text_short {J : Jb} (hF : J.Full) : (textJ J).length ≤ 300 := by
  obtain ⟨p,t,r,u,d,x,y,le,wi,me,len,sh⟩ := hF
  have a1 := span_short (a := J.p1) (b := J.p2) (by omega) (by omega)
  have a2 := span_short (a := J.t1) (b := J.t2) (by omega) (by omega)
  have a3 := span_short (a := J.r1) (b := J.r2) (by omega) (by omega)
  have a4 := span_short (a := J.u1) (b := J.u2) (by omega) (by omega)
  have a5 := span_short (a := J.d1) (b := J.d2) (by omega) (by omega)
  have a6 := span_short (a := J.x1) (b := J.x2) (by omega) (by omega)
  have a7 := span_short (a := J.y1) (b := J.y2) (by omega) (by omega)
  have a8 := itoa_short (n := J.le) (by omega)
  have a9 := itoa_short (n := J.wi) (by omega)
  have a10 := itoa_short (n := J.me) (by omega)
  have a11 := shT_short J.sh sh
  unfold textJ lineT
  simp only [List.length_append,Tx.join_two,join_one,List.length_cons,List.length_nil,tongueW,fileW,passW]
  omega
theorem readJ_text {J : Jb} (h : J.check = 0) : readJ (bt (textJ J)).data.toList = (J,0,0) := by
  have hF := check_full h
  have hl := text_short hF
  show readJ (textJ J) = _
  unfold readJ
  rw [if_neg (by omega),parse_text hF]
  simp only [Nat.lt_irrefl,if_false,h,ne_eq,not_true_eq_false]
theorem readJ_back {T : List UInt8} (h : (readJ T).2.2 = 0) : (readJ T).1.check = 0 ∧ textJ (readJ T).1 = T := by
  unfold readJ at h ⊢
  split
  · rename_i h1
    rw [if_pos h1] at h
    cases h
  · rename_i h1
    rw [if_neg h1] at h
    split
    · rename_i h2
      rw [if_pos h2] at h
      cases h
    · rename_i h2
      rw [if_neg h2] at h
      split
      · rename_i h3
        rw [if_pos h3] at h
        exact absurd h h3
      · rename_i h3
        have e : (parseJ T).2 = 0 := by omega
        exact ⟨by simpa using h3,(parse_back (show parseJ T = ((parseJ T).1,0) by rw [← e])).symm⟩
/-- The chapter's example. -/
def TunOK8 : Prop := ∀ (w : World),8 ≤ w.heap.size → Calls Tryz.prog 5 #[] w fun e w' => e = .returned (.bool true) ∧ Below w.heap.size w w'
set_option maxHeartbeats 2000000 in
set_option maxRecDepth 1000000 in
theorem read_law (HT : TunOK8) (a : Option Addr) (n c : Nat) (l : List Int) (X : ByteArray) (w : World) (hn : n = l.length) (hm : n ≤ 9223372036854775807) (h : Is w w.heap.size a l) (hl : LibW w) :
    Calls Tryz.prog 4 #[.slice a n c,.string X] w fun e w' => e = .returned (.bool true) ∧ Below w.heap.size w w' := by
  have HL := hidMk hl
  have HTN := hidMk HT
  have HN := hidMk hn
  have HI := hidMk h
  have hr8 := hl.room
  have HR8 := hidMk hr8
  clear hl HT hn h hr8
  go_enter Tryz.func4,Tryz.ntmps4
  by_cases h250 : 250 < X.size
  · have h250' : (250 : Int) < (X.size : Int) := by omega
    go_wp2_with fail
    refine (HTN.out _ HR8.out).mono ?_
    rintro e w' ⟨rfl,hb⟩
    have HB := hidMk hb
    clear hb
    go_wp2_with fail
    refine bodyPost_ret (v := .bool true) (by simp [results,Tryz.results4,go_sem]) rfl ?_
    exact ⟨rfl,HB.out⟩
  have h250' : ¬ (250 : Int) < (X.size : Int) := by omega
  go_wp2_with fail
  refine (newPot_any a n c l w HN.out hm HI.out).mono ?_
  rintro e w1 ⟨s,t,rfl,hp,hb1⟩
  have HB1 := hidMk hb1
  clear hb1
  go_wp2_with fail
  refine (jobOf_hand 40 6 (by omega) (by omega) w.heap.size w1 ⟨t,s,hp⟩).mono ?_
  rintro e w2 ⟨M,ma,mn,mc,rfl,hmn,hrg,hck,hpb,hpt,hown,_,_⟩
  have HB2 := hidMk (HB1.out.trans ((hpb.mono (by have := hp.lt; omega)).toBelow (Nat.le_refl _)))
  have HMN := hidMk hmn
  have HRG := hidMk hrg
  have HCK := hidMk hck
  clear hmn hrg hck hpb hpt hown hp
  go_wp2_with (first | (refine wpList_store_row rfl 30 _ _ rfl w2.heap.size (jobC M (.slice ma mn mc)) rfl rfl _ _ (Bk.new _ _ _) szJob rfl (oneJob _ _ _ _) ?_; rw [World.setRow_alloc_new]) | (refine wpList_load_row rfl 30 _ rfl w2.heap.size rfl _ (jobC M (.slice ma mn mc)) _ _ (Bk.new _ _ _) Tryz.underlying30 rfl szJob ?_))
  have hbx := below0 w2 (.cells (jobC M (.slice ma mn mc)) 30)
  have HB3 := hidMk (HB2.out.trans (hbx.mono HB2.out.size))
  have HRG3 := hidMk (HRG.out.up hbx)
  have HBK := hidMk (Bk.new w2 30 (jobC M (.slice ma mn mc)))
  generalize hw3 : w2.alloc (.cells (jobC M (.slice ma mn mc)) 30) = w3 at HB3 HRG3 HBK hbx ⊢
  have hz3 : w2.heap.size < w3.heap.size := HBK.out.lt
  generalize w2.heap.size = g5 at HBK hz3 ⊢
  clear hw3 hbx HB2 HRG
  refine (write_ok M ma mn mc w3 HCK.out HMN.out HRG3.out (HL.out.up HB3.out)).mono ?_
  rintro e w4 ⟨rfl,hb4⟩
  have HB4 := hidMk (HB3.out.trans (hb4.mono HB3.out.size))
  have HRG4 := hidMk (HRG3.out.up hb4)
  have HBK4 := hidMk (HBK.out.below hb4 HBK.out.lt)
  clear hb4 HB3 HRG3 HBK hz3
  go_wp2_with fail
  refine (read_any (bt (textJ M)) w4 (HL.out.up HB4.out)).mono ?_
  rintro e w5 ⟨ra,rc,rfl,hrc,hr5,hb5⟩
  rw [readJ_text HCK.out] at hr5 hrc ⊢
  simp only at hr5 hrc
  simp only
  rw [← HMN.out]
  have HB5 := hidMk (HB4.out.trans (hb5.mono HB4.out.size))
  have HRG5 := hidMk (HRG4.out.up hb5)
  have HBK5 := hidMk (HBK4.out.below hb5 HBK4.out.lt)
  have HR5 := hidMk hr5
  clear hb5 HB4 HRG4 HBK4 hr5 hrc
  have hby := below0 w5 (.cells (jobC M (.slice ra mn rc)) 30)
  have HB6 := hidMk (HB5.out.trans (hby.mono HB5.out.size))
  have HRG6 := hidMk (HRG5.out.up hby)
  have HRR6 := hidMk (HR5.out.up hby)
  have HBK6 := hidMk (HBK5.out.below hby HBK5.out.lt)
  have HBN6 := hidMk (Bk.new w5 30 (jobC M (.slice ra mn rc)))
  clear hby
  go_wp2_with (first | (refine wpList_store_row rfl 30 _ _ rfl w5.heap.size (jobC M (.slice ra mn rc)) rfl rfl _ _ (Bk.new _ _ _) szJob rfl (oneJob _ _ _ _) ?_; rw [World.setRow_alloc_new]) | (refine wpList_load_rowW (by kernel_rfl) 30 _ rfl g5 rfl _ (jobC M (.slice ma mn mc)) _ _ HBK6.out Tryz.underlying30 rfl szJob ?_) | (refine wpList_load_rowW (by kernel_rfl) 30 _ rfl w5.heap.size rfl _ (jobC M (.slice ra mn rc)) _ _ HBN6.out Tryz.underlying30 rfl szJob ?_))
  have HM1 := hidMk (show mn ≤ 1000 by have := (check_full HCK.out).len; have := HMN.out; omega)
  refine (sameJobs_any M ma ra mn mc rc _ HMN.out HM1.out HRG6.out HRR6.out).mono ?_
  rintro e w7 ⟨rfl,hb7⟩
  have HB7 := hidMk (HB6.out.trans (hb7.mono HB6.out.size))
  clear hb7 HB6 HRG6 HRR6 HBK6 HBN6 HB5 HRG5 HBK5 HR5
  go_wp2_with fail
  refine (read_any X w7 (HL.out.up HB7.out)).mono ?_
  rintro e w8 ⟨ya,yc,rfl,hyc,hry,hb8⟩
  obtain ⟨Y,hY⟩ : ∃ x,x = (readJ X.data.toList).1 := ⟨_,rfl⟩
  obtain ⟨er,her⟩ : ∃ x,x = (readJ X.data.toList).2.2 := ⟨_,rfl⟩
  obtain ⟨li,hli⟩ : ∃ x,x = (readJ X.data.toList).2.1 := ⟨_,rfl⟩
  have HBACK := hidMk (readJ_back (T := X.data.toList))
  rw [← hY,← her] at HBACK
  rw [← hY] at hry
  rw [← hY,← her,← hli]
  obtain ⟨yn,hyn⟩ : ∃ x,x = Y.sh.length := ⟨_,rfl⟩
  rw [← hyn]
  have HYN := hidMk hyn
  have HB8 := hidMk (HB7.out.trans (hb8.mono HB7.out.size))
  have hby := below0 w8 (.cells (jobC Y (.slice ya yn yc)) 30)
  have HRY := hidMk (Rg.up hry hby)
  have HB9 := hidMk (HB8.out.trans (hby.mono HB8.out.size))
  have HBY := hidMk (Bk.new w8 30 (jobC Y (.slice ya yn yc)))
  clear hY her hli hyc hry hb8 hyn HB7 hby
  by_cases he : er = 0
  · obtain ⟨hc,ht⟩ := HBACK.out he
    subst he
    have HTX := hidMk (show bt (textJ Y) = X by unfold bt; rw [ht])
    have HC := hidMk hc
    clear hc ht
    go_wp2_with (first | (refine wpList_store_row rfl 30 _ _ rfl w8.heap.size (jobC Y (.slice ya yn yc)) rfl rfl _ _ (Bk.new _ _ _) szJob rfl (oneJob _ _ _ _) ?_; rw [World.setRow_alloc_new]) | (refine wpList_load_row rfl 30 _ rfl w8.heap.size rfl _ (jobC Y (.slice ya yn yc)) _ _ HBY.out Tryz.underlying30 rfl szJob ?_))
    refine (write_ok Y ya yn yc _ HC.out HYN.out HRY.out (HL.out.up HB9.out)).mono ?_
    rintro e w10 ⟨rfl,hb10⟩
    rw [HTX.out]
    have HB10 := hidMk (HB9.out.trans (hb10.mono HB9.out.size))
    clear hb10
    go_wp2_with fail
    refine (HTN.out _ (Nat.le_trans HR8.out HB10.out.size)).mono ?_
    rintro e w11 ⟨rfl,hb11⟩
    have HB11 := hidMk (HB10.out.trans (hb11.mono HB10.out.size))
    clear hb11
    go_wp2_with fail
    refine bodyPost_ret (v := .bool true) (by simp [results,Tryz.results4,go_sem]) rfl ?_
    exact ⟨rfl,HB11.out⟩
  · have he' : (er != 0) = true := by simpa using he
    go_wp2_with (first | (refine wpList_store_row rfl 30 _ _ rfl w8.heap.size (jobC Y (.slice ya yn yc)) rfl rfl _ _ (Bk.new _ _ _) szJob rfl (oneJob _ _ _ _) ?_; rw [World.setRow_alloc_new]))
    refine (HTN.out _ (Nat.le_trans HR8.out HB9.out.size)).mono ?_
    rintro e w11 ⟨rfl,hb11⟩
    have HB11 := hidMk (HB9.out.trans (hb11.mono HB9.out.size))
    clear hb11
    go_wp2_with fail
    refine bodyPost_ret (v := .bool true) (by simp [results,Tryz.results4,go_sem]) rfl ?_
    exact ⟨rfl,HB11.out⟩
end Go.Proofs.YtljefjngmembkaaGreatDoor
