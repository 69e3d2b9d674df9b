/- Part 30 of the proof: SamJ, Pots. -/
import Derived.Test.YtljefjngmembkaaGreatDoorT12
import Derived.Test.YtljefjngmembkaaGreatDoorT29
import Derived.Test.YtljefjngmembkaaGreatDoorT11
namespace Go.Proofs.YtljefjngmembkaaGreatDoor
set_option linter.all false
open Go.RowKit
noncomputable def sndJ : Code → Code
  | .seq _ c => c
  | c => c
set_option maxRecDepth 100000 in
theorem eqlR (a0 a1 : Int) (w : World) : (binOp .eql 23 (.agg #[.int .i64 a0,.int .i64 a1]) (.agg #[.int .i64 a0,.int .i64 a1])).run Tryz.prog w = .ok (.bool true) w := by
  rw [run_eql_struct]
  simp [go_sem]
set_option maxRecDepth 100000 in
theorem eqlT (a0 a1 a2 a3 a4 a5 : Int) (w : World) : (binOp .eql 25 (.agg #[.int .i64 a0,.int .i64 a1,.int .i64 a2,.int .i64 a3,.int .i64 a4,.int .i64 a5]) (.agg #[.int .i64 a0,.int .i64 a1,.int .i64 a2,.int .i64 a3,.int .i64 a4,.int .i64 a5])).run Tryz.prog w = .ok (.bool true) w := by
  rw [run_eql_struct]
  simp [go_sem]
set_option maxRecDepth 100000 in
theorem eqlF (a0 a1 a2 a3 a4 a5 a6 a7 a8 : Int) (w : World) : (binOp .eql 27 (.agg #[.int .i64 a0,.int .i64 a1,.int .i64 a2,.int .i64 a3,.int .i64 a4,.int .i64 a5,.int .i64 a6,.int .i64 a7,.int .i64 a8]) (.agg #[.int .i64 a0,.int .i64 a1,.int .i64 a2,.int .i64 a3,.int .i64 a4,.int .i64 a5,.int .i64 a6,.int .i64 a7,.int .i64 a8])).run Tryz.prog w = .ok (.bool true) w := by
  rw [run_eql_struct]
  simp [go_sem]
set_option maxHeartbeats 2000000 in
set_option maxRecDepth 100000 in
theorem sameRanges_any (a b : Option Addr) (n c d : Nat) (l : List R2) (w : World) (hn : n = l.length) (hm : n ≤ 1000) (ha : Rg w w.heap.size a l) (hb : Rg w w.heap.size b l) :
    Calls Tryz.prog 39 #[.slice a n c,.slice b n d] w fun e w' => e = .returned (.bool true) ∧ Below w.heap.size w w' := by
  have Hn := hidMk hn
  have Ha := hidMk ha
  have Hb := hidMk hb
  clear hn ha hb
  go_enter Tryz.func39,Tryz.ntmps39
  go_wp2_with fail
  go_loopw [5,6] (fun v i wr => ∃ k : Nat,k ≤ n ∧ i = .int .i64 k ∧ v = .bool true ∧ Below w.heap.size w wr) (fun _ i _ => n - (intOf i).toNat)
  case atStart => exact ⟨0,Nat.zero_le _,rfl,by simp,Below.refl _ _⟩
  case round =>
    obtain ⟨k,hk,rfl,rfl,hB⟩ := hrel
    by_cases hlt : k < n
    · have hkl : k < l.length := by rw [← Hn.out]; exact hlt
      obtain ⟨q,off,rfl,hbl,e0,e1⟩ := Ha.out k l[k] (List.getElem?_eq_getElem hkl)
      obtain ⟨q',off',rfl,hbl',e0',e1'⟩ := Hb.out k l[k] (List.getElem?_eq_getElem hkl)
      obtain ⟨s,Hs⟩ : ∃ s,Hid (s = l[k]) := ⟨_,hidMk rfl⟩
      rw [← Hs.out] at e0 e1 e0' e1'
      have hklt : decide ((k : Int) < (n : Int)) = true := decide_eq_true (by omega)
      go_wp2_with fail
      refine region_via (R := fun a_ e a' w' => e = .normal ∧ ∃ (v21 v22 v23 v24 v25 v26 v27 v28 v29 : Value),a' = ((((((((((a_.put (some 21) v21).put (some 22) v22).put (some 23) v23).put (some 24) v24).put (some 25) v25).put (some 26) v26).put (some 27) v27).put (some 28) v28).put (some 29) v29).put (some 5) (.bool true)) ∧ Below w.heap.size w w') ?_ ?_
      rotate_left
      · rintro e a' w' ⟨rfl,v21,v22,v23,v24,v25,v26,v27,v28,v29,rfl,hB'⟩
        simp only [Act.put,aT,aZ,aS]
        have HB' := hidMk hB'
        clear hB hB' e0 e1 e0' e1'
        go_wp2_with fail
        go_roundw
        case rel => exact ⟨k + 1,by omega,by go_num,rfl,HB'.out⟩
        case measure => simp [intOf]; omega
      refine wp_region_held_drew (S := fun w' => Below w.heap.size w w') (by kernel_rfl) hB.drew (fun hS0 => ?_)
      replace hB := hB.drew
      generalize hWd : wr.drew = wd at hS0 hB ⊢
      clear hWd
      refine wT (i := 0) (oi := ⟨some 21,.move (.tmp 0),28,"base.go:125",#[],none⟩) (v := ?_) rfl (.inl ⟨by rfl,?_⟩) ?_
      rotate_left
      · (intro w' hSw; (try dsimp only at hSw); (have p0 := (hSw.cell (p := ⟨q,off + k * 2,none⟩) hbl).trans e0; have p1 := (hSw.cell (p := ⟨q,off + k * 2 + 1,none⟩) hbl).trans e1; have r0 := (hSw.cell (p := ⟨q',off' + k * 2,none⟩) hbl').trans e0'; have r1 := (hSw.cell (p := ⟨q',off' + k * 2 + 1,none⟩) hbl').trans e1'; have qe := eqlR s.1 s.2); go_simp <;> with_reducible rfl)
      (try simp only [Act.put,aT,aZ,aS])
      refine wT (i := 1) (oi := ⟨some 22,.move (.tmp 6),3,"base.go:125",#[],none⟩) (v := ?_) rfl (.inl ⟨by rfl,?_⟩) ?_
      rotate_left
      · (intro w' hSw; (try dsimp only at hSw); (have p0 := (hSw.cell (p := ⟨q,off + k * 2,none⟩) hbl).trans e0; have p1 := (hSw.cell (p := ⟨q,off + k * 2 + 1,none⟩) hbl).trans e1; have r0 := (hSw.cell (p := ⟨q',off' + k * 2,none⟩) hbl').trans e0'; have r1 := (hSw.cell (p := ⟨q',off' + k * 2 + 1,none⟩) hbl').trans e1'; have qe := eqlR s.1 s.2); go_simp <;> with_reducible rfl)
      (try simp only [Act.put,aT,aZ,aS])
      refine wT (i := 2) (oi := ⟨some 23,.indexAddr 28 (.tmp 21) (.tmp 22),0,"base.go:125",#[⟨0,.data⟩,⟨1,.data⟩],none⟩) (v := ?_) rfl (.inl ⟨by rfl,?_⟩) ?_
      rotate_left
      · (intro w' hSw; (try dsimp only at hSw); (have p0 := (hSw.cell (p := ⟨q,off + k * 2,none⟩) hbl).trans e0; have p1 := (hSw.cell (p := ⟨q,off + k * 2 + 1,none⟩) hbl).trans e1; have r0 := (hSw.cell (p := ⟨q',off' + k * 2,none⟩) hbl').trans e0'; have r1 := (hSw.cell (p := ⟨q',off' + k * 2 + 1,none⟩) hbl').trans e1'; have qe := eqlR s.1 s.2); go_simp <;> with_reducible rfl)
      (try simp only [Act.put,aT,aZ,aS])
      refine wT (i := 3) (oi := ⟨some 24,.load 23 (.tmp 23),23,"base.go:125",#[⟨2,.data⟩],none⟩) (v := ?_) rfl (.inl ⟨by rfl,?_⟩) ?_
      rotate_left
      · (intro w' hSw; (try dsimp only at hSw); (have p0 := (hSw.cell (p := ⟨q,off + k * 2,none⟩) hbl).trans e0; have p1 := (hSw.cell (p := ⟨q,off + k * 2 + 1,none⟩) hbl).trans e1; have r0 := (hSw.cell (p := ⟨q',off' + k * 2,none⟩) hbl').trans e0'; have r1 := (hSw.cell (p := ⟨q',off' + k * 2 + 1,none⟩) hbl').trans e1'; have qe := eqlR s.1 s.2); go_simp <;> with_reducible rfl)
      (try simp only [Act.put,aT,aZ,aS])
      refine wT (i := 4) (oi := ⟨some 25,.move (.tmp 1),28,"base.go:125",#[],none⟩) (v := ?_) rfl (.inl ⟨by rfl,?_⟩) ?_
      rotate_left
      · (intro w' hSw; (try dsimp only at hSw); (have p0 := (hSw.cell (p := ⟨q,off + k * 2,none⟩) hbl).trans e0; have p1 := (hSw.cell (p := ⟨q,off + k * 2 + 1,none⟩) hbl).trans e1; have r0 := (hSw.cell (p := ⟨q',off' + k * 2,none⟩) hbl').trans e0'; have r1 := (hSw.cell (p := ⟨q',off' + k * 2 + 1,none⟩) hbl').trans e1'; have qe := eqlR s.1 s.2); go_simp <;> with_reducible rfl)
      (try simp only [Act.put,aT,aZ,aS])
      refine wT (i := 5) (oi := ⟨some 26,.move (.tmp 6),3,"base.go:125",#[],none⟩) (v := ?_) rfl (.inl ⟨by rfl,?_⟩) ?_
      rotate_left
      · (intro w' hSw; (try dsimp only at hSw); (have p0 := (hSw.cell (p := ⟨q,off + k * 2,none⟩) hbl).trans e0; have p1 := (hSw.cell (p := ⟨q,off + k * 2 + 1,none⟩) hbl).trans e1; have r0 := (hSw.cell (p := ⟨q',off' + k * 2,none⟩) hbl').trans e0'; have r1 := (hSw.cell (p := ⟨q',off' + k * 2 + 1,none⟩) hbl').trans e1'; have qe := eqlR s.1 s.2); go_simp <;> with_reducible rfl)
      (try simp only [Act.put,aT,aZ,aS])
      refine wT (i := 6) (oi := ⟨some 27,.indexAddr 28 (.tmp 25) (.tmp 26),0,"base.go:125",#[⟨4,.data⟩,⟨5,.data⟩],none⟩) (v := ?_) rfl (.inl ⟨by rfl,?_⟩) ?_
      rotate_left
      · (intro w' hSw; (try dsimp only at hSw); (have p0 := (hSw.cell (p := ⟨q,off + k * 2,none⟩) hbl).trans e0; have p1 := (hSw.cell (p := ⟨q,off + k * 2 + 1,none⟩) hbl).trans e1; have r0 := (hSw.cell (p := ⟨q',off' + k * 2,none⟩) hbl').trans e0'; have r1 := (hSw.cell (p := ⟨q',off' + k * 2 + 1,none⟩) hbl').trans e1'; have qe := eqlR s.1 s.2); go_simp <;> with_reducible rfl)
      (try simp only [Act.put,aT,aZ,aS])
      refine wT (i := 7) (oi := ⟨some 28,.load 23 (.tmp 27),23,"base.go:125",#[⟨6,.data⟩],none⟩) (v := ?_) rfl (.inl ⟨by rfl,?_⟩) ?_
      rotate_left
      · (intro w' hSw; (try dsimp only at hSw); (have p0 := (hSw.cell (p := ⟨q,off + k * 2,none⟩) hbl).trans e0; have p1 := (hSw.cell (p := ⟨q,off + k * 2 + 1,none⟩) hbl).trans e1; have r0 := (hSw.cell (p := ⟨q',off' + k * 2,none⟩) hbl').trans e0'; have r1 := (hSw.cell (p := ⟨q',off' + k * 2 + 1,none⟩) hbl').trans e1'; have qe := eqlR s.1 s.2); go_simp <;> with_reducible rfl)
      (try simp only [Act.put,aT,aZ,aS])
      refine wT (i := 8) (oi := ⟨some 29,.binOp .eql 23 (.tmp 24) (.tmp 28) 23,4,"base.go:125",#[⟨3,.data⟩,⟨7,.data⟩],none⟩) (v := ?_) rfl (.inl ⟨by rfl,?_⟩) ?_
      rotate_left
      · (intro w' hSw; (try dsimp only at hSw); (have p0 := (hSw.cell (p := ⟨q,off + k * 2,none⟩) hbl).trans e0; have p1 := (hSw.cell (p := ⟨q,off + k * 2 + 1,none⟩) hbl).trans e1; have r0 := (hSw.cell (p := ⟨q',off' + k * 2,none⟩) hbl').trans e0'; have r1 := (hSw.cell (p := ⟨q',off' + k * 2 + 1,none⟩) hbl').trans e1'; have qe := eqlR s.1 s.2); go_simp <;> with_reducible rfl)
      (try simp only [Act.put,aT,aZ,aS])
      refine wpAnyH_ready (rs := [9]) (by kernel_rfl) (by simp) ?_
      refine AllReadyH.cons (o := ⟨some 5,.assign (.tmp 29),4,"base.go:125",#[⟨8,.data⟩,⟨0,.phase⟩,⟨1,.phase⟩,⟨2,.phase⟩,⟨3,.phase⟩,⟨4,.phase⟩,⟨5,.phase⟩,⟨6,.phase⟩,⟨7,.phase⟩,⟨8,.phase⟩],none⟩) rfl (fun K hK => ?_) ?_
      · go_simp
        refine hK.out _ _ hB (fun hS3 => ?_)
        clear hK K
        (try simp only [Act.put,aT,aZ,aS])
        refine wpAnyH_done (by kernel_rfl) ?_ _
        exact ⟨rfl,_,_,_,_,_,_,_,_,_,rfl,hB⟩
      exact AllReadyH.nil
    · obtain rfl : k = n := by omega
      have HB := hidMk hB
      clear hB
      go_wp2_with fail
      go_ret
      exact ⟨rfl,HB.out⟩
noncomputable def sjbody : Code := Tryz.f13.body.getD .skip
noncomputable def sjrest1 : Code := sndJ sjbody
set_option maxRecDepth 1000000 in
theorem sjbody_eq : sjbody = .seq (Code.region 0 #[⟨some 2,.box 30 (.tmp 0),0,"jobs.go:51",#[],none⟩,⟨some 3,.box 30 (.tmp 1),0,"jobs.go:51",#[],none⟩,⟨some 4,.assign (.const (.bool false)),4,"jobs.go:51",#[],none⟩] false) sjrest1 := by kernel_rfl
set_option maxRecDepth 1000000 in
theorem sjrest1_eq : sjrest1 = .seq (Code.region 1 #[⟨some 5,.fieldAddr 30 (.tmp 2) 0,0,"jobs.go:52",#[],none⟩,⟨some 6,.load 25 (.tmp 5),25,"jobs.go:52",#[⟨0,.data⟩],none⟩,⟨some 7,.fieldAddr 30 (.tmp 3) 0,0,"jobs.go:52",#[],none⟩,⟨some 8,.load 25 (.tmp 7),25,"jobs.go:52",#[⟨2,.data⟩],none⟩,⟨some 9,.binOp .eql 25 (.tmp 6) (.tmp 8) 25,4,"jobs.go:52",#[⟨1,.data⟩,⟨3,.data⟩],none⟩,⟨some 10,.move (.tmp 9),4,"jobs.go:52",#[⟨4,.data⟩],none⟩,⟨some 11,.fieldAddr 30 (.tmp 2) 1,0,"jobs.go:52",#[⟨5,.guard⟩],some (5,true)⟩,⟨some 12,.load 27 (.tmp 11),27,"jobs.go:52",#[⟨6,.data⟩,⟨5,.guard⟩],some (5,true)⟩,⟨some 13,.fieldAddr 30 (.tmp 3) 1,0,"jobs.go:52",#[⟨5,.guard⟩],some (5,true)⟩,⟨some 14,.load 27 (.tmp 13),27,"jobs.go:52",#[⟨8,.data⟩,⟨5,.guard⟩],some (5,true)⟩,⟨some 15,.binOp .eql 27 (.tmp 12) (.tmp 14) 27,4,"jobs.go:52",#[⟨7,.data⟩,⟨9,.data⟩,⟨5,.guard⟩],some (5,true)⟩,⟨some 16,.pick (.tmp 10) (.tmp 15) (.const (.bool false)),4,"jobs.go:52",#[⟨5,.data⟩,⟨10,.data⟩],none⟩,⟨some 17,.move (.tmp 16),4,"jobs.go:52",#[⟨11,.data⟩,⟨5,.chain⟩],none⟩,⟨some 18,.fieldAddr 30 (.tmp 2) 3,0,"jobs.go:52",#[⟨12,.guard⟩],some (12,true)⟩,⟨some 19,.load 3 (.tmp 18),3,"jobs.go:52",#[⟨13,.data⟩,⟨12,.guard⟩],some (12,true)⟩,⟨some 20,.fieldAddr 30 (.tmp 3) 3,0,"jobs.go:52",#[⟨12,.guard⟩],some (12,true)⟩,⟨some 21,.load 3 (.tmp 20),3,"jobs.go:52",#[⟨15,.data⟩,⟨12,.guard⟩],some (12,true)⟩,⟨some 22,.binOp .eql 3 (.tmp 19) (.tmp 21) 3,4,"jobs.go:52",#[⟨14,.data⟩,⟨16,.data⟩,⟨12,.guard⟩],some (12,true)⟩,⟨some 23,.pick (.tmp 17) (.tmp 22) (.const (.bool false)),4,"jobs.go:52",#[⟨12,.data⟩,⟨17,.data⟩],none⟩,⟨some 24,.move (.tmp 23),4,"jobs.go:52",#[⟨18,.data⟩,⟨12,.chain⟩],none⟩,⟨some 25,.fieldAddr 30 (.tmp 2) 4,0,"jobs.go:52",#[⟨19,.guard⟩],some (19,true)⟩,⟨some 26,.load 3 (.tmp 25),3,"jobs.go:52",#[⟨20,.data⟩,⟨19,.guard⟩],some (19,true)⟩,⟨some 27,.fieldAddr 30 (.tmp 3) 4,0,"jobs.go:52",#[⟨19,.guard⟩],some (19,true)⟩,⟨some 28,.load 3 (.tmp 27),3,"jobs.go:52",#[⟨22,.data⟩,⟨19,.guard⟩],some (19,true)⟩,⟨some 29,.binOp .eql 3 (.tmp 26) (.tmp 28) 3,4,"jobs.go:52",#[⟨21,.data⟩,⟨23,.data⟩,⟨19,.guard⟩],some (19,true)⟩,⟨some 30,.pick (.tmp 24) (.tmp 29) (.const (.bool false)),4,"jobs.go:52",#[⟨19,.data⟩,⟨24,.data⟩],none⟩,⟨some 31,.move (.tmp 30),4,"jobs.go:52",#[⟨25,.data⟩,⟨19,.chain⟩],none⟩,⟨some 32,.fieldAddr 30 (.tmp 2) 2,0,"jobs.go:52",#[⟨26,.guard⟩],some (26,true)⟩,⟨some 33,.load 28 (.tmp 32),28,"jobs.go:52",#[⟨27,.data⟩,⟨26,.guard⟩],some (26,true)⟩,⟨some 34,.fieldAddr 30 (.tmp 3) 2,0,"jobs.go:52",#[⟨26,.guard⟩],some (26,true)⟩,⟨some 35,.load 28 (.tmp 34),28,"jobs.go:52",#[⟨29,.data⟩,⟨26,.guard⟩],some (26,true)⟩,⟨some 36,.call { callee := .value (.func 39),args := #[.tmp 33,.tmp 35],argTypes := #[28,28] },4,"jobs.go:52",#[⟨28,.data⟩,⟨30,.data⟩,⟨26,.chain⟩,⟨26,.guard⟩],some (26,true)⟩,⟨some 37,.pick (.tmp 31) (.tmp 36) (.const (.bool false)),4,"jobs.go:52",#[⟨26,.data⟩,⟨31,.data⟩],none⟩,⟨some 4,.assign (.tmp 37),4,"jobs.go:52",#[⟨32,.data⟩,⟨31,.chain⟩,⟨0,.phase⟩,⟨1,.phase⟩,⟨2,.phase⟩,⟨3,.phase⟩,⟨4,.phase⟩,⟨5,.phase⟩,⟨6,.phase⟩,⟨7,.phase⟩,⟨8,.phase⟩,⟨9,.phase⟩,⟨10,.phase⟩,⟨11,.phase⟩,⟨12,.phase⟩,⟨13,.phase⟩,⟨14,.phase⟩,⟨15,.phase⟩,⟨16,.phase⟩,⟨17,.phase⟩,⟨18,.phase⟩,⟨19,.phase⟩,⟨20,.phase⟩,⟨21,.phase⟩,⟨22,.phase⟩,⟨23,.phase⟩,⟨24,.phase⟩,⟨25,.phase⟩,⟨26,.phase⟩,⟨27,.phase⟩,⟨28,.phase⟩,⟨29,.phase⟩,⟨30,.phase⟩,⟨31,.phase⟩,⟨32,.phase⟩],none⟩] false) .ret := by kernel_rfl
set_option maxHeartbeats 2000000 in
set_option maxRecDepth 100000 in
theorem sameJobs_any (J : Jb) (a b : Option Addr) (n c d : Nat) (w : World) (hn : n = J.sh.length) (hm : n ≤ 1000) (ha : Rg w w.heap.size a J.sh) (hb : Rg w w.heap.size b J.sh) :
    Calls Tryz.prog 13 #[.agg (jobC J (.slice a n c)),.agg (jobC J (.slice b n d))] w fun e w' => e = .returned (.bool true) ∧ Below w.heap.size w w' := by
  have Hn := hidMk hn
  have Ha := hidMk ha
  have Hb := hidMk hb
  clear hn ha hb
  go_enter Tryz.func13,Tryz.ntmps13
  show Code.wp Tryz.prog sjbody _ _ _
  rw [sjbody_eq]
  go_wp2_with fail
  rw [sjrest1_eq]
  refine wp_seq_k fun K0 hK0 => ?_
  have b0 : Bk ((w.alloc (.cells (jobC J (.slice a n c)) 30)).alloc (.cells (jobC J (.slice b n d)) 30)) w.heap.size 30 (jobC J (.slice a n c)) := (Bk.new w _ _).alloc _
  have b1 : Bk ((w.alloc (.cells (jobC J (.slice a n c)) 30)).alloc (.cells (jobC J (.slice b n d)) 30)) (w.heap.size + 1) 30 (jobC J (.slice b n d)) := Bk.newAt _ _ _ _ (by simp)
  have hW : Below w.heap.size w ((w.alloc (.cells (jobC J (.slice a n c)) 30)).alloc (.cells (jobC J (.slice b n d)) 30)) := ((Below.refl _ _).alloc (Nat.le_refl _) _).alloc (by simp) _
  generalize hw1 : (w.alloc (.cells (jobC J (.slice a n c)) 30)).alloc (.cells (jobC J (.slice b n d)) 30) = w1 at b0 b1 hW ⊢
  clear hw1
  have hz := hW.size
  refine wp_region_l [0,1,2,3,4,5,6,7,8,9,10,11,12,13,14,15,16,17,18,19,20,21,22,23,24,25,26,27,28,29,30,31,32,33] (by kernel_rfl) ?_
  refine opsL_take (o := ⟨some 5,.fieldAddr 30 (.tmp 2) 0,0,"jobs.go:52",#[],none⟩) (v := ?_) rfl (by rfl) ?_ ?_
  rotate_left
  · (skip; go_simp <;> with_reducible rfl)
  (try simp only [Act.put,aT,aZ,aS])
  refine opsL_take (o := ⟨some 6,.load 25 (.tmp 5),25,"jobs.go:52",#[⟨0,.data⟩],none⟩) (v := ?_) rfl (by rfl) ?_ ?_
  rotate_left
  · ((have c0 := b0.at_ 0 (.int .i64 J.p1) rfl; have c1 := b0.at_ 1 (.int .i64 J.p2) rfl; have c2 := b0.at_ 2 (.int .i64 J.t1) rfl; have c3 := b0.at_ 3 (.int .i64 J.t2) rfl; have c4 := b0.at_ 4 (.int .i64 J.r1) rfl; have c5 := b0.at_ 5 (.int .i64 J.r2) rfl; have c6 := b0.at_ 6 (.int .i64 J.u1) rfl; have c7 := b0.at_ 7 (.int .i64 J.u2) rfl; have c8 := b0.at_ 8 (.int .i64 J.d1) rfl; have c9 := b0.at_ 9 (.int .i64 J.d2) rfl; have c10 := b0.at_ 10 (.int .i64 J.x1) rfl; have c11 := b0.at_ 11 (.int .i64 J.x2) rfl; have c12 := b0.at_ 12 (.int .i64 J.y1) rfl; have c13 := b0.at_ 13 (.int .i64 J.y2) rfl; have c14 := b0.at_ 14 (.int .i64 J.le) rfl; have c15 := b0.at_ 15 (.slice a n c) rfl; have c16 := b0.at_ 16 (.int .i64 J.wi) rfl; have c17 := b0.at_ 17 (.int .i64 J.me) rfl; have d0 := b1.at_ 0 (.int .i64 J.p1) rfl; have d1 := b1.at_ 1 (.int .i64 J.p2) rfl; have d2 := b1.at_ 2 (.int .i64 J.t1) rfl; have d3 := b1.at_ 3 (.int .i64 J.t2) rfl; have d4 := b1.at_ 4 (.int .i64 J.r1) rfl; have d5 := b1.at_ 5 (.int .i64 J.r2) rfl; have d6 := b1.at_ 6 (.int .i64 J.u1) rfl; have d7 := b1.at_ 7 (.int .i64 J.u2) rfl; have d8 := b1.at_ 8 (.int .i64 J.d1) rfl; have d9 := b1.at_ 9 (.int .i64 J.d2) rfl; have d10 := b1.at_ 10 (.int .i64 J.x1) rfl; have d11 := b1.at_ 11 (.int .i64 J.x2) rfl; have d12 := b1.at_ 12 (.int .i64 J.y1) rfl; have d13 := b1.at_ 13 (.int .i64 J.y2) rfl; have d14 := b1.at_ 14 (.int .i64 J.le) rfl; have d15 := b1.at_ 15 (.slice b n d) rfl; have d16 := b1.at_ 16 (.int .i64 J.wi) rfl; have d17 := b1.at_ 17 (.int .i64 J.me) rfl); go_simp <;> with_reducible rfl)
  (try simp only [Act.put,aT,aZ,aS])
  refine opsL_take (o := ⟨some 7,.fieldAddr 30 (.tmp 3) 0,0,"jobs.go:52",#[],none⟩) (v := ?_) rfl (by rfl) ?_ ?_
  rotate_left
  · (skip; go_simp <;> with_reducible rfl)
  (try simp only [Act.put,aT,aZ,aS])
  refine opsL_take (o := ⟨some 8,.load 25 (.tmp 7),25,"jobs.go:52",#[⟨2,.data⟩],none⟩) (v := ?_) rfl (by rfl) ?_ ?_
  rotate_left
  · ((have c0 := b0.at_ 0 (.int .i64 J.p1) rfl; have c1 := b0.at_ 1 (.int .i64 J.p2) rfl; have c2 := b0.at_ 2 (.int .i64 J.t1) rfl; have c3 := b0.at_ 3 (.int .i64 J.t2) rfl; have c4 := b0.at_ 4 (.int .i64 J.r1) rfl; have c5 := b0.at_ 5 (.int .i64 J.r2) rfl; have c6 := b0.at_ 6 (.int .i64 J.u1) rfl; have c7 := b0.at_ 7 (.int .i64 J.u2) rfl; have c8 := b0.at_ 8 (.int .i64 J.d1) rfl; have c9 := b0.at_ 9 (.int .i64 J.d2) rfl; have c10 := b0.at_ 10 (.int .i64 J.x1) rfl; have c11 := b0.at_ 11 (.int .i64 J.x2) rfl; have c12 := b0.at_ 12 (.int .i64 J.y1) rfl; have c13 := b0.at_ 13 (.int .i64 J.y2) rfl; have c14 := b0.at_ 14 (.int .i64 J.le) rfl; have c15 := b0.at_ 15 (.slice a n c) rfl; have c16 := b0.at_ 16 (.int .i64 J.wi) rfl; have c17 := b0.at_ 17 (.int .i64 J.me) rfl; have d0 := b1.at_ 0 (.int .i64 J.p1) rfl; have d1 := b1.at_ 1 (.int .i64 J.p2) rfl; have d2 := b1.at_ 2 (.int .i64 J.t1) rfl; have d3 := b1.at_ 3 (.int .i64 J.t2) rfl; have d4 := b1.at_ 4 (.int .i64 J.r1) rfl; have d5 := b1.at_ 5 (.int .i64 J.r2) rfl; have d6 := b1.at_ 6 (.int .i64 J.u1) rfl; have d7 := b1.at_ 7 (.int .i64 J.u2) rfl; have d8 := b1.at_ 8 (.int .i64 J.d1) rfl; have d9 := b1.at_ 9 (.int .i64 J.d2) rfl; have d10 := b1.at_ 10 (.int .i64 J.x1) rfl; have d11 := b1.at_ 11 (.int .i64 J.x2) rfl; have d12 := b1.at_ 12 (.int .i64 J.y1) rfl; have d13 := b1.at_ 13 (.int .i64 J.y2) rfl; have d14 := b1.at_ 14 (.int .i64 J.le) rfl; have d15 := b1.at_ 15 (.slice b n d) rfl; have d16 := b1.at_ 16 (.int .i64 J.wi) rfl; have d17 := b1.at_ 17 (.int .i64 J.me) rfl); go_simp <;> with_reducible rfl)
  (try simp only [Act.put,aT,aZ,aS])
  refine opsL_take (o := ⟨some 9,.binOp .eql 25 (.tmp 6) (.tmp 8) 25,4,"jobs.go:52",#[⟨1,.data⟩,⟨3,.data⟩],none⟩) (v := ?_) rfl (by rfl) ?_ ?_
  rotate_left
  · ((have qT := eqlT J.p1 J.p2 J.t1 J.t2 J.r1 J.r2; have qF := eqlF J.u1 J.u2 J.d1 J.d2 J.x1 J.x2 J.y1 J.y2 J.le); go_simp <;> with_reducible rfl)
  (try simp only [Act.put,aT,aZ,aS])
  refine opsL_take (o := ⟨some 10,.move (.tmp 9),4,"jobs.go:52",#[⟨4,.data⟩],none⟩) (v := ?_) rfl (by rfl) ?_ ?_
  rotate_left
  · (skip; go_simp <;> with_reducible rfl)
  (try simp only [Act.put,aT,aZ,aS])
  refine opsL_take (o := ⟨some 11,.fieldAddr 30 (.tmp 2) 1,0,"jobs.go:52",#[⟨5,.guard⟩],some (5,true)⟩) (v := ?_) rfl (by rfl) ?_ ?_
  rotate_left
  · (skip; go_simp <;> with_reducible rfl)
  (try simp only [Act.put,aT,aZ,aS])
  refine opsL_take (o := ⟨some 12,.load 27 (.tmp 11),27,"jobs.go:52",#[⟨6,.data⟩,⟨5,.guard⟩],some (5,true)⟩) (v := ?_) rfl (by rfl) ?_ ?_
  rotate_left
  · ((have c0 := b0.at_ 0 (.int .i64 J.p1) rfl; have c1 := b0.at_ 1 (.int .i64 J.p2) rfl; have c2 := b0.at_ 2 (.int .i64 J.t1) rfl; have c3 := b0.at_ 3 (.int .i64 J.t2) rfl; have c4 := b0.at_ 4 (.int .i64 J.r1) rfl; have c5 := b0.at_ 5 (.int .i64 J.r2) rfl; have c6 := b0.at_ 6 (.int .i64 J.u1) rfl; have c7 := b0.at_ 7 (.int .i64 J.u2) rfl; have c8 := b0.at_ 8 (.int .i64 J.d1) rfl; have c9 := b0.at_ 9 (.int .i64 J.d2) rfl; have c10 := b0.at_ 10 (.int .i64 J.x1) rfl; have c11 := b0.at_ 11 (.int .i64 J.x2) rfl; have c12 := b0.at_ 12 (.int .i64 J.y1) rfl; have c13 := b0.at_ 13 (.int .i64 J.y2) rfl; have c14 := b0.at_ 14 (.int .i64 J.le) rfl; have c15 := b0.at_ 15 (.slice a n c) rfl; have c16 := b0.at_ 16 (.int .i64 J.wi) rfl; have c17 := b0.at_ 17 (.int .i64 J.me) rfl; have d0 := b1.at_ 0 (.int .i64 J.p1) rfl; have d1 := b1.at_ 1 (.int .i64 J.p2) rfl; have d2 := b1.at_ 2 (.int .i64 J.t1) rfl; have d3 := b1.at_ 3 (.int .i64 J.t2) rfl; have d4 := b1.at_ 4 (.int .i64 J.r1) rfl; have d5 := b1.at_ 5 (.int .i64 J.r2) rfl; have d6 := b1.at_ 6 (.int .i64 J.u1) rfl; have d7 := b1.at_ 7 (.int .i64 J.u2) rfl; have d8 := b1.at_ 8 (.int .i64 J.d1) rfl; have d9 := b1.at_ 9 (.int .i64 J.d2) rfl; have d10 := b1.at_ 10 (.int .i64 J.x1) rfl; have d11 := b1.at_ 11 (.int .i64 J.x2) rfl; have d12 := b1.at_ 12 (.int .i64 J.y1) rfl; have d13 := b1.at_ 13 (.int .i64 J.y2) rfl; have d14 := b1.at_ 14 (.int .i64 J.le) rfl; have d15 := b1.at_ 15 (.slice b n d) rfl; have d16 := b1.at_ 16 (.int .i64 J.wi) rfl; have d17 := b1.at_ 17 (.int .i64 J.me) rfl); go_simp <;> with_reducible rfl)
  (try simp only [Act.put,aT,aZ,aS])
  refine opsL_take (o := ⟨some 13,.fieldAddr 30 (.tmp 3) 1,0,"jobs.go:52",#[⟨5,.guard⟩],some (5,true)⟩) (v := ?_) rfl (by rfl) ?_ ?_
  rotate_left
  · (skip; go_simp <;> with_reducible rfl)
  (try simp only [Act.put,aT,aZ,aS])
  refine opsL_take (o := ⟨some 14,.load 27 (.tmp 13),27,"jobs.go:52",#[⟨8,.data⟩,⟨5,.guard⟩],some (5,true)⟩) (v := ?_) rfl (by rfl) ?_ ?_
  rotate_left
  · ((have c0 := b0.at_ 0 (.int .i64 J.p1) rfl; have c1 := b0.at_ 1 (.int .i64 J.p2) rfl; have c2 := b0.at_ 2 (.int .i64 J.t1) rfl; have c3 := b0.at_ 3 (.int .i64 J.t2) rfl; have c4 := b0.at_ 4 (.int .i64 J.r1) rfl; have c5 := b0.at_ 5 (.int .i64 J.r2) rfl; have c6 := b0.at_ 6 (.int .i64 J.u1) rfl; have c7 := b0.at_ 7 (.int .i64 J.u2) rfl; have c8 := b0.at_ 8 (.int .i64 J.d1) rfl; have c9 := b0.at_ 9 (.int .i64 J.d2) rfl; have c10 := b0.at_ 10 (.int .i64 J.x1) rfl; have c11 := b0.at_ 11 (.int .i64 J.x2) rfl; have c12 := b0.at_ 12 (.int .i64 J.y1) rfl; have c13 := b0.at_ 13 (.int .i64 J.y2) rfl; have c14 := b0.at_ 14 (.int .i64 J.le) rfl; have c15 := b0.at_ 15 (.slice a n c) rfl; have c16 := b0.at_ 16 (.int .i64 J.wi) rfl; have c17 := b0.at_ 17 (.int .i64 J.me) rfl; have d0 := b1.at_ 0 (.int .i64 J.p1) rfl; have d1 := b1.at_ 1 (.int .i64 J.p2) rfl; have d2 := b1.at_ 2 (.int .i64 J.t1) rfl; have d3 := b1.at_ 3 (.int .i64 J.t2) rfl; have d4 := b1.at_ 4 (.int .i64 J.r1) rfl; have d5 := b1.at_ 5 (.int .i64 J.r2) rfl; have d6 := b1.at_ 6 (.int .i64 J.u1) rfl; have d7 := b1.at_ 7 (.int .i64 J.u2) rfl; have d8 := b1.at_ 8 (.int .i64 J.d1) rfl; have d9 := b1.at_ 9 (.int .i64 J.d2) rfl; have d10 := b1.at_ 10 (.int .i64 J.x1) rfl; have d11 := b1.at_ 11 (.int .i64 J.x2) rfl; have d12 := b1.at_ 12 (.int .i64 J.y1) rfl; have d13 := b1.at_ 13 (.int .i64 J.y2) rfl; have d14 := b1.at_ 14 (.int .i64 J.le) rfl; have d15 := b1.at_ 15 (.slice b n d) rfl; have d16 := b1.at_ 16 (.int .i64 J.wi) rfl; have d17 := b1.at_ 17 (.int .i64 J.me) rfl); go_simp <;> with_reducible rfl)
  (try simp only [Act.put,aT,aZ,aS])
  refine opsL_take (o := ⟨some 15,.binOp .eql 27 (.tmp 12) (.tmp 14) 27,4,"jobs.go:52",#[⟨7,.data⟩,⟨9,.data⟩,⟨5,.guard⟩],some (5,true)⟩) (v := ?_) rfl (by rfl) ?_ ?_
  rotate_left
  · ((have qT := eqlT J.p1 J.p2 J.t1 J.t2 J.r1 J.r2; have qF := eqlF J.u1 J.u2 J.d1 J.d2 J.x1 J.x2 J.y1 J.y2 J.le); go_simp <;> with_reducible rfl)
  (try simp only [Act.put,aT,aZ,aS])
  refine opsL_take (o := ⟨some 16,.pick (.tmp 10) (.tmp 15) (.const (.bool false)),4,"jobs.go:52",#[⟨5,.data⟩,⟨10,.data⟩],none⟩) (v := ?_) rfl (by rfl) ?_ ?_
  rotate_left
  · (skip; go_simp <;> with_reducible rfl)
  (try simp only [Act.put,aT,aZ,aS])
  refine opsL_take (o := ⟨some 17,.move (.tmp 16),4,"jobs.go:52",#[⟨11,.data⟩,⟨5,.chain⟩],none⟩) (v := ?_) rfl (by rfl) ?_ ?_
  rotate_left
  · (skip; go_simp <;> with_reducible rfl)
  (try simp only [Act.put,aT,aZ,aS])
  refine opsL_take (o := ⟨some 18,.fieldAddr 30 (.tmp 2) 3,0,"jobs.go:52",#[⟨12,.guard⟩],some (12,true)⟩) (v := ?_) rfl (by rfl) ?_ ?_
  rotate_left
  · (skip; go_simp <;> with_reducible rfl)
  (try simp only [Act.put,aT,aZ,aS])
  refine opsL_take (o := ⟨some 19,.load 3 (.tmp 18),3,"jobs.go:52",#[⟨13,.data⟩,⟨12,.guard⟩],some (12,true)⟩) (v := ?_) rfl (by rfl) ?_ ?_
  rotate_left
  · ((have c0 := b0.at_ 0 (.int .i64 J.p1) rfl; have c1 := b0.at_ 1 (.int .i64 J.p2) rfl; have c2 := b0.at_ 2 (.int .i64 J.t1) rfl; have c3 := b0.at_ 3 (.int .i64 J.t2) rfl; have c4 := b0.at_ 4 (.int .i64 J.r1) rfl; have c5 := b0.at_ 5 (.int .i64 J.r2) rfl; have c6 := b0.at_ 6 (.int .i64 J.u1) rfl; have c7 := b0.at_ 7 (.int .i64 J.u2) rfl; have c8 := b0.at_ 8 (.int .i64 J.d1) rfl; have c9 := b0.at_ 9 (.int .i64 J.d2) rfl; have c10 := b0.at_ 10 (.int .i64 J.x1) rfl; have c11 := b0.at_ 11 (.int .i64 J.x2) rfl; have c12 := b0.at_ 12 (.int .i64 J.y1) rfl; have c13 := b0.at_ 13 (.int .i64 J.y2) rfl; have c14 := b0.at_ 14 (.int .i64 J.le) rfl; have c15 := b0.at_ 15 (.slice a n c) rfl; have c16 := b0.at_ 16 (.int .i64 J.wi) rfl; have c17 := b0.at_ 17 (.int .i64 J.me) rfl; have d0 := b1.at_ 0 (.int .i64 J.p1) rfl; have d1 := b1.at_ 1 (.int .i64 J.p2) rfl; have d2 := b1.at_ 2 (.int .i64 J.t1) rfl; have d3 := b1.at_ 3 (.int .i64 J.t2) rfl; have d4 := b1.at_ 4 (.int .i64 J.r1) rfl; have d5 := b1.at_ 5 (.int .i64 J.r2) rfl; have d6 := b1.at_ 6 (.int .i64 J.u1) rfl; have d7 := b1.at_ 7 (.int .i64 J.u2) rfl; have d8 := b1.at_ 8 (.int .i64 J.d1) rfl; have d9 := b1.at_ 9 (.int .i64 J.d2) rfl; have d10 := b1.at_ 10 (.int .i64 J.x1) rfl; have d11 := b1.at_ 11 (.int .i64 J.x2) rfl; have d12 := b1.at_ 12 (.int .i64 J.y1) rfl; have d13 := b1.at_ 13 (.int .i64 J.y2) rfl; have d14 := b1.at_ 14 (.int .i64 J.le) rfl; have d15 := b1.at_ 15 (.slice b n d) rfl; have d16 := b1.at_ 16 (.int .i64 J.wi) rfl; have d17 := b1.at_ 17 (.int .i64 J.me) rfl); go_simp <;> with_reducible rfl)
  (try simp only [Act.put,aT,aZ,aS])
  refine opsL_take (o := ⟨some 20,.fieldAddr 30 (.tmp 3) 3,0,"jobs.go:52",#[⟨12,.guard⟩],some (12,true)⟩) (v := ?_) rfl (by rfl) ?_ ?_
  rotate_left
  · (skip; go_simp <;> with_reducible rfl)
  (try simp only [Act.put,aT,aZ,aS])
  refine opsL_take (o := ⟨some 21,.load 3 (.tmp 20),3,"jobs.go:52",#[⟨15,.data⟩,⟨12,.guard⟩],some (12,true)⟩) (v := ?_) rfl (by rfl) ?_ ?_
  rotate_left
  · ((have c0 := b0.at_ 0 (.int .i64 J.p1) rfl; have c1 := b0.at_ 1 (.int .i64 J.p2) rfl; have c2 := b0.at_ 2 (.int .i64 J.t1) rfl; have c3 := b0.at_ 3 (.int .i64 J.t2) rfl; have c4 := b0.at_ 4 (.int .i64 J.r1) rfl; have c5 := b0.at_ 5 (.int .i64 J.r2) rfl; have c6 := b0.at_ 6 (.int .i64 J.u1) rfl; have c7 := b0.at_ 7 (.int .i64 J.u2) rfl; have c8 := b0.at_ 8 (.int .i64 J.d1) rfl; have c9 := b0.at_ 9 (.int .i64 J.d2) rfl; have c10 := b0.at_ 10 (.int .i64 J.x1) rfl; have c11 := b0.at_ 11 (.int .i64 J.x2) rfl; have c12 := b0.at_ 12 (.int .i64 J.y1) rfl; have c13 := b0.at_ 13 (.int .i64 J.y2) rfl; have c14 := b0.at_ 14 (.int .i64 J.le) rfl; have c15 := b0.at_ 15 (.slice a n c) rfl; have c16 := b0.at_ 16 (.int .i64 J.wi) rfl; have c17 := b0.at_ 17 (.int .i64 J.me) rfl; have d0 := b1.at_ 0 (.int .i64 J.p1) rfl; have d1 := b1.at_ 1 (.int .i64 J.p2) rfl; have d2 := b1.at_ 2 (.int .i64 J.t1) rfl; have d3 := b1.at_ 3 (.int .i64 J.t2) rfl; have d4 := b1.at_ 4 (.int .i64 J.r1) rfl; have d5 := b1.at_ 5 (.int .i64 J.r2) rfl; have d6 := b1.at_ 6 (.int .i64 J.u1) rfl; have d7 := b1.at_ 7 (.int .i64 J.u2) rfl; have d8 := b1.at_ 8 (.int .i64 J.d1) rfl; have d9 := b1.at_ 9 (.int .i64 J.d2) rfl; have d10 := b1.at_ 10 (.int .i64 J.x1) rfl; have d11 := b1.at_ 11 (.int .i64 J.x2) rfl; have d12 := b1.at_ 12 (.int .i64 J.y1) rfl; have d13 := b1.at_ 13 (.int .i64 J.y2) rfl; have d14 := b1.at_ 14 (.int .i64 J.le) rfl; have d15 := b1.at_ 15 (.slice b n d) rfl; have d16 := b1.at_ 16 (.int .i64 J.wi) rfl; have d17 := b1.at_ 17 (.int .i64 J.me) rfl); go_simp <;> with_reducible rfl)
  (try simp only [Act.put,aT,aZ,aS])
  refine opsL_take (o := ⟨some 22,.binOp .eql 3 (.tmp 19) (.tmp 21) 3,4,"jobs.go:52",#[⟨14,.data⟩,⟨16,.data⟩,⟨12,.guard⟩],some (12,true)⟩) (v := ?_) rfl (by rfl) ?_ ?_
  rotate_left
  · ((have qT := eqlT J.p1 J.p2 J.t1 J.t2 J.r1 J.r2; have qF := eqlF J.u1 J.u2 J.d1 J.d2 J.x1 J.x2 J.y1 J.y2 J.le); go_simp <;> with_reducible rfl)
  (try simp only [Act.put,aT,aZ,aS])
  refine opsL_take (o := ⟨some 23,.pick (.tmp 17) (.tmp 22) (.const (.bool false)),4,"jobs.go:52",#[⟨12,.data⟩,⟨17,.data⟩],none⟩) (v := ?_) rfl (by rfl) ?_ ?_
  rotate_left
  · (skip; go_simp <;> with_reducible rfl)
  (try simp only [Act.put,aT,aZ,aS])
  refine opsL_take (o := ⟨some 24,.move (.tmp 23),4,"jobs.go:52",#[⟨18,.data⟩,⟨12,.chain⟩],none⟩) (v := ?_) rfl (by rfl) ?_ ?_
  rotate_left
  · (skip; go_simp <;> with_reducible rfl)
  (try simp only [Act.put,aT,aZ,aS])
  refine opsL_take (o := ⟨some 25,.fieldAddr 30 (.tmp 2) 4,0,"jobs.go:52",#[⟨19,.guard⟩],some (19,true)⟩) (v := ?_) rfl (by rfl) ?_ ?_
  rotate_left
  · (skip; go_simp <;> with_reducible rfl)
  (try simp only [Act.put,aT,aZ,aS])
  refine opsL_take (o := ⟨some 26,.load 3 (.tmp 25),3,"jobs.go:52",#[⟨20,.data⟩,⟨19,.guard⟩],some (19,true)⟩) (v := ?_) rfl (by rfl) ?_ ?_
  rotate_left
  · ((have c0 := b0.at_ 0 (.int .i64 J.p1) rfl; have c1 := b0.at_ 1 (.int .i64 J.p2) rfl; have c2 := b0.at_ 2 (.int .i64 J.t1) rfl; have c3 := b0.at_ 3 (.int .i64 J.t2) rfl; have c4 := b0.at_ 4 (.int .i64 J.r1) rfl; have c5 := b0.at_ 5 (.int .i64 J.r2) rfl; have c6 := b0.at_ 6 (.int .i64 J.u1) rfl; have c7 := b0.at_ 7 (.int .i64 J.u2) rfl; have c8 := b0.at_ 8 (.int .i64 J.d1) rfl; have c9 := b0.at_ 9 (.int .i64 J.d2) rfl; have c10 := b0.at_ 10 (.int .i64 J.x1) rfl; have c11 := b0.at_ 11 (.int .i64 J.x2) rfl; have c12 := b0.at_ 12 (.int .i64 J.y1) rfl; have c13 := b0.at_ 13 (.int .i64 J.y2) rfl; have c14 := b0.at_ 14 (.int .i64 J.le) rfl; have c15 := b0.at_ 15 (.slice a n c) rfl; have c16 := b0.at_ 16 (.int .i64 J.wi) rfl; have c17 := b0.at_ 17 (.int .i64 J.me) rfl; have d0 := b1.at_ 0 (.int .i64 J.p1) rfl; have d1 := b1.at_ 1 (.int .i64 J.p2) rfl; have d2 := b1.at_ 2 (.int .i64 J.t1) rfl; have d3 := b1.at_ 3 (.int .i64 J.t2) rfl; have d4 := b1.at_ 4 (.int .i64 J.r1) rfl; have d5 := b1.at_ 5 (.int .i64 J.r2) rfl; have d6 := b1.at_ 6 (.int .i64 J.u1) rfl; have d7 := b1.at_ 7 (.int .i64 J.u2) rfl; have d8 := b1.at_ 8 (.int .i64 J.d1) rfl; have d9 := b1.at_ 9 (.int .i64 J.d2) rfl; have d10 := b1.at_ 10 (.int .i64 J.x1) rfl; have d11 := b1.at_ 11 (.int .i64 J.x2) rfl; have d12 := b1.at_ 12 (.int .i64 J.y1) rfl; have d13 := b1.at_ 13 (.int .i64 J.y2) rfl; have d14 := b1.at_ 14 (.int .i64 J.le) rfl; have d15 := b1.at_ 15 (.slice b n d) rfl; have d16 := b1.at_ 16 (.int .i64 J.wi) rfl; have d17 := b1.at_ 17 (.int .i64 J.me) rfl); go_simp <;> with_reducible rfl)
  (try simp only [Act.put,aT,aZ,aS])
  refine opsL_take (o := ⟨some 27,.fieldAddr 30 (.tmp 3) 4,0,"jobs.go:52",#[⟨19,.guard⟩],some (19,true)⟩) (v := ?_) rfl (by rfl) ?_ ?_
  rotate_left
  · (skip; go_simp <;> with_reducible rfl)
  (try simp only [Act.put,aT,aZ,aS])
  refine opsL_take (o := ⟨some 28,.load 3 (.tmp 27),3,"jobs.go:52",#[⟨22,.data⟩,⟨19,.guard⟩],some (19,true)⟩) (v := ?_) rfl (by rfl) ?_ ?_
  rotate_left
  · ((have c0 := b0.at_ 0 (.int .i64 J.p1) rfl; have c1 := b0.at_ 1 (.int .i64 J.p2) rfl; have c2 := b0.at_ 2 (.int .i64 J.t1) rfl; have c3 := b0.at_ 3 (.int .i64 J.t2) rfl; have c4 := b0.at_ 4 (.int .i64 J.r1) rfl; have c5 := b0.at_ 5 (.int .i64 J.r2) rfl; have c6 := b0.at_ 6 (.int .i64 J.u1) rfl; have c7 := b0.at_ 7 (.int .i64 J.u2) rfl; have c8 := b0.at_ 8 (.int .i64 J.d1) rfl; have c9 := b0.at_ 9 (.int .i64 J.d2) rfl; have c10 := b0.at_ 10 (.int .i64 J.x1) rfl; have c11 := b0.at_ 11 (.int .i64 J.x2) rfl; have c12 := b0.at_ 12 (.int .i64 J.y1) rfl; have c13 := b0.at_ 13 (.int .i64 J.y2) rfl; have c14 := b0.at_ 14 (.int .i64 J.le) rfl; have c15 := b0.at_ 15 (.slice a n c) rfl; have c16 := b0.at_ 16 (.int .i64 J.wi) rfl; have c17 := b0.at_ 17 (.int .i64 J.me) rfl; have d0 := b1.at_ 0 (.int .i64 J.p1) rfl; have d1 := b1.at_ 1 (.int .i64 J.p2) rfl; have d2 := b1.at_ 2 (.int .i64 J.t1) rfl; have d3 := b1.at_ 3 (.int .i64 J.t2) rfl; have d4 := b1.at_ 4 (.int .i64 J.r1) rfl; have d5 := b1.at_ 5 (.int .i64 J.r2) rfl; have d6 := b1.at_ 6 (.int .i64 J.u1) rfl; have d7 := b1.at_ 7 (.int .i64 J.u2) rfl; have d8 := b1.at_ 8 (.int .i64 J.d1) rfl; have d9 := b1.at_ 9 (.int .i64 J.d2) rfl; have d10 := b1.at_ 10 (.int .i64 J.x1) rfl; have d11 := b1.at_ 11 (.int .i64 J.x2) rfl; have d12 := b1.at_ 12 (.int .i64 J.y1) rfl; have d13 := b1.at_ 13 (.int .i64 J.y2) rfl; have d14 := b1.at_ 14 (.int .i64 J.le) rfl; have d15 := b1.at_ 15 (.slice b n d) rfl; have d16 := b1.at_ 16 (.int .i64 J.wi) rfl; have d17 := b1.at_ 17 (.int .i64 J.me) rfl); go_simp <;> with_reducible rfl)
  (try simp only [Act.put,aT,aZ,aS])
  refine opsL_take (o := ⟨some 29,.binOp .eql 3 (.tmp 26) (.tmp 28) 3,4,"jobs.go:52",#[⟨21,.data⟩,⟨23,.data⟩,⟨19,.guard⟩],some (19,true)⟩) (v := ?_) rfl (by rfl) ?_ ?_
  rotate_left
  · ((have qT := eqlT J.p1 J.p2 J.t1 J.t2 J.r1 J.r2; have qF := eqlF J.u1 J.u2 J.d1 J.d2 J.x1 J.x2 J.y1 J.y2 J.le); go_simp <;> with_reducible rfl)
  (try simp only [Act.put,aT,aZ,aS])
  refine opsL_take (o := ⟨some 30,.pick (.tmp 24) (.tmp 29) (.const (.bool false)),4,"jobs.go:52",#[⟨19,.data⟩,⟨24,.data⟩],none⟩) (v := ?_) rfl (by rfl) ?_ ?_
  rotate_left
  · (skip; go_simp <;> with_reducible rfl)
  (try simp only [Act.put,aT,aZ,aS])
  refine opsL_take (o := ⟨some 31,.move (.tmp 30),4,"jobs.go:52",#[⟨25,.data⟩,⟨19,.chain⟩],none⟩) (v := ?_) rfl (by rfl) ?_ ?_
  rotate_left
  · (skip; go_simp <;> with_reducible rfl)
  (try simp only [Act.put,aT,aZ,aS])
  refine opsL_take (o := ⟨some 32,.fieldAddr 30 (.tmp 2) 2,0,"jobs.go:52",#[⟨26,.guard⟩],some (26,true)⟩) (v := ?_) rfl (by rfl) ?_ ?_
  rotate_left
  · (skip; go_simp <;> with_reducible rfl)
  (try simp only [Act.put,aT,aZ,aS])
  refine opsL_take (o := ⟨some 33,.load 28 (.tmp 32),28,"jobs.go:52",#[⟨27,.data⟩,⟨26,.guard⟩],some (26,true)⟩) (v := ?_) rfl (by rfl) ?_ ?_
  rotate_left
  · ((have c0 := b0.at_ 0 (.int .i64 J.p1) rfl; have c1 := b0.at_ 1 (.int .i64 J.p2) rfl; have c2 := b0.at_ 2 (.int .i64 J.t1) rfl; have c3 := b0.at_ 3 (.int .i64 J.t2) rfl; have c4 := b0.at_ 4 (.int .i64 J.r1) rfl; have c5 := b0.at_ 5 (.int .i64 J.r2) rfl; have c6 := b0.at_ 6 (.int .i64 J.u1) rfl; have c7 := b0.at_ 7 (.int .i64 J.u2) rfl; have c8 := b0.at_ 8 (.int .i64 J.d1) rfl; have c9 := b0.at_ 9 (.int .i64 J.d2) rfl; have c10 := b0.at_ 10 (.int .i64 J.x1) rfl; have c11 := b0.at_ 11 (.int .i64 J.x2) rfl; have c12 := b0.at_ 12 (.int .i64 J.y1) rfl; have c13 := b0.at_ 13 (.int .i64 J.y2) rfl; have c14 := b0.at_ 14 (.int .i64 J.le) rfl; have c15 := b0.at_ 15 (.slice a n c) rfl; have c16 := b0.at_ 16 (.int .i64 J.wi) rfl; have c17 := b0.at_ 17 (.int .i64 J.me) rfl; have d0 := b1.at_ 0 (.int .i64 J.p1) rfl; have d1 := b1.at_ 1 (.int .i64 J.p2) rfl; have d2 := b1.at_ 2 (.int .i64 J.t1) rfl; have d3 := b1.at_ 3 (.int .i64 J.t2) rfl; have d4 := b1.at_ 4 (.int .i64 J.r1) rfl; have d5 := b1.at_ 5 (.int .i64 J.r2) rfl; have d6 := b1.at_ 6 (.int .i64 J.u1) rfl; have d7 := b1.at_ 7 (.int .i64 J.u2) rfl; have d8 := b1.at_ 8 (.int .i64 J.d1) rfl; have d9 := b1.at_ 9 (.int .i64 J.d2) rfl; have d10 := b1.at_ 10 (.int .i64 J.x1) rfl; have d11 := b1.at_ 11 (.int .i64 J.x2) rfl; have d12 := b1.at_ 12 (.int .i64 J.y1) rfl; have d13 := b1.at_ 13 (.int .i64 J.y2) rfl; have d14 := b1.at_ 14 (.int .i64 J.le) rfl; have d15 := b1.at_ 15 (.slice b n d) rfl; have d16 := b1.at_ 16 (.int .i64 J.wi) rfl; have d17 := b1.at_ 17 (.int .i64 J.me) rfl); go_simp <;> with_reducible rfl)
  (try simp only [Act.put,aT,aZ,aS])
  refine opsL_take (o := ⟨some 34,.fieldAddr 30 (.tmp 3) 2,0,"jobs.go:52",#[⟨26,.guard⟩],some (26,true)⟩) (v := ?_) rfl (by rfl) ?_ ?_
  rotate_left
  · (skip; go_simp <;> with_reducible rfl)
  (try simp only [Act.put,aT,aZ,aS])
  refine opsL_take (o := ⟨some 35,.load 28 (.tmp 34),28,"jobs.go:52",#[⟨29,.data⟩,⟨26,.guard⟩],some (26,true)⟩) (v := ?_) rfl (by rfl) ?_ ?_
  rotate_left
  · ((have c0 := b0.at_ 0 (.int .i64 J.p1) rfl; have c1 := b0.at_ 1 (.int .i64 J.p2) rfl; have c2 := b0.at_ 2 (.int .i64 J.t1) rfl; have c3 := b0.at_ 3 (.int .i64 J.t2) rfl; have c4 := b0.at_ 4 (.int .i64 J.r1) rfl; have c5 := b0.at_ 5 (.int .i64 J.r2) rfl; have c6 := b0.at_ 6 (.int .i64 J.u1) rfl; have c7 := b0.at_ 7 (.int .i64 J.u2) rfl; have c8 := b0.at_ 8 (.int .i64 J.d1) rfl; have c9 := b0.at_ 9 (.int .i64 J.d2) rfl; have c10 := b0.at_ 10 (.int .i64 J.x1) rfl; have c11 := b0.at_ 11 (.int .i64 J.x2) rfl; have c12 := b0.at_ 12 (.int .i64 J.y1) rfl; have c13 := b0.at_ 13 (.int .i64 J.y2) rfl; have c14 := b0.at_ 14 (.int .i64 J.le) rfl; have c15 := b0.at_ 15 (.slice a n c) rfl; have c16 := b0.at_ 16 (.int .i64 J.wi) rfl; have c17 := b0.at_ 17 (.int .i64 J.me) rfl; have d0 := b1.at_ 0 (.int .i64 J.p1) rfl; have d1 := b1.at_ 1 (.int .i64 J.p2) rfl; have d2 := b1.at_ 2 (.int .i64 J.t1) rfl; have d3 := b1.at_ 3 (.int .i64 J.t2) rfl; have d4 := b1.at_ 4 (.int .i64 J.r1) rfl; have d5 := b1.at_ 5 (.int .i64 J.r2) rfl; have d6 := b1.at_ 6 (.int .i64 J.u1) rfl; have d7 := b1.at_ 7 (.int .i64 J.u2) rfl; have d8 := b1.at_ 8 (.int .i64 J.d1) rfl; have d9 := b1.at_ 9 (.int .i64 J.d2) rfl; have d10 := b1.at_ 10 (.int .i64 J.x1) rfl; have d11 := b1.at_ 11 (.int .i64 J.x2) rfl; have d12 := b1.at_ 12 (.int .i64 J.y1) rfl; have d13 := b1.at_ 13 (.int .i64 J.y2) rfl; have d14 := b1.at_ 14 (.int .i64 J.le) rfl; have d15 := b1.at_ 15 (.slice b n d) rfl; have d16 := b1.at_ 16 (.int .i64 J.wi) rfl; have d17 := b1.at_ 17 (.int .i64 J.me) rfl); go_simp <;> with_reducible rfl)
  (try simp only [Act.put,aT,aZ,aS])
  refine opsL_step (o := ⟨some 36,.call { callee := .value (.func 39),args := #[.tmp 33,.tmp 35],argTypes := #[28,28] },4,"jobs.go:52",#[⟨28,.data⟩,⟨30,.data⟩,⟨26,.chain⟩,⟨26,.guard⟩],some (26,true)⟩) rfl (fun K hK => ?_)
  go_simp
  go_at_call 39
  refine (sameRanges_any a b n c d J.sh _ Hn.out hm (Ha.out.up hW) (Hb.out.up hW)).mono ?_
  rintro e w2 ⟨rfl,hb2⟩
  have HB2 := hidMk (hW.trans (hb2.mono hz))
  clear hb2
  go_wp2_with fail
  refine hK.out _ _ ?_
  clear hK K
  (try simp only [Act.put,aT,aZ,aS])
  refine opsL_take (o := ⟨some 37,.pick (.tmp 31) (.tmp 36) (.const (.bool false)),4,"jobs.go:52",#[⟨26,.data⟩,⟨31,.data⟩],none⟩) (v := ?_) rfl (by rfl) ?_ ?_
  rotate_left
  · (skip; go_simp <;> with_reducible rfl)
  (try simp only [Act.put,aT,aZ,aS])
  refine opsL_take (o := ⟨some 4,.assign (.tmp 37),4,"jobs.go:52",#[⟨32,.data⟩,⟨31,.chain⟩,⟨0,.phase⟩,⟨1,.phase⟩,⟨2,.phase⟩,⟨3,.phase⟩,⟨4,.phase⟩,⟨5,.phase⟩,⟨6,.phase⟩,⟨7,.phase⟩,⟨8,.phase⟩,⟨9,.phase⟩,⟨10,.phase⟩,⟨11,.phase⟩,⟨12,.phase⟩,⟨13,.phase⟩,⟨14,.phase⟩,⟨15,.phase⟩,⟨16,.phase⟩,⟨17,.phase⟩,⟨18,.phase⟩,⟨19,.phase⟩,⟨20,.phase⟩,⟨21,.phase⟩,⟨22,.phase⟩,⟨23,.phase⟩,⟨24,.phase⟩,⟨25,.phase⟩,⟨26,.phase⟩,⟨27,.phase⟩,⟨28,.phase⟩,⟨29,.phase⟩,⟨30,.phase⟩,⟨31,.phase⟩,⟨32,.phase⟩],none⟩) (v := ?_) rfl (by rfl) ?_ ?_
  rotate_left
  · (skip; go_simp <;> with_reducible rfl)
  (try simp only [Act.put,aT,aZ,aS])
  refine hK0 _ _ ?_
  refine wp_ret ?_
  go_ret
  exact ⟨rfl,HB2.out⟩
end Go.Proofs.YtljefjngmembkaaGreatDoor
namespace Go.Proofs.YtljefjngmembkaaGreatDoor
set_option linter.all false
open Go.RowKit
set_option maxHeartbeats 1000000 in
theorem newPot_any (a : Option Addr) (n c : Nat) (l : List Int) (w : World) (hn : n = l.length) (hm : n ≤ 9223372036854775807) (h : Is w w.heap.size a l) :
    Calls Tryz.prog 7 #[.slice a n c] w fun e w' => ∃ s t,e = .returned (.pointer (some ⟨w.heap.size,0,none⟩)) ∧ Bk w' w.heap.size t #[.int .u64 s] ∧ Below w.heap.size w w' := by
  have Hn : Hid (n = l.length) := hn
  have Hh : Hid (Is w w.heap.size a l) := h
  clear hn h
  go_enter Tryz.func7,Tryz.ntmps7
  go_wp2
  go_loopw [4] (fun i wr => ∃ (k : Nat) (s : Int) (t : TypeId),k ≤ n ∧ i = .int .i64 k ∧ Bk wr w.heap.size t #[.int .u64 s] ∧ Below w.heap.size w wr) (fun i _ => n - (intOf i).toNat)
  case atStart => exact ⟨0,_,_,Nat.zero_le _,rfl,Bk.new w _ _,(Below.refl _ _).alloc (Nat.le_refl _) _⟩
  case round =>
    obtain ⟨k,s,t,hk,rfl,hb,hB⟩ := hrel
    have c0 := hb.at_ 0 _ rfl
    have f0 := hb.free 0
    have hl := hb.lt
    by_cases hlt : k < n
    · have hkl : k < l.length := by rw [← Hn.out]; exact hlt
      obtain ⟨b,off,rfl,hbl,e0⟩ := Hh.out k l[k] (List.getElem?_eq_getElem hkl)
      replace e0 := (hB.cell (p := ⟨b,off + k,none⟩) hbl).trans e0
      obtain ⟨x,hx⟩ : ∃ x,l[k] = x := ⟨_,rfl⟩
      rw [hx] at e0
      have hne : b ≠ w.heap.size := by omega
      have hne' : w.heap.size ≠ b := by omega
      have i0 : (0 : Int) ≤ ↑k := by omega
      have i1 : (↑k : Int) < ↑n := by omega
      have HB := hidMk hB
      have Hb := hidMk hb
      clear hB hb hx hbl Hh Hn hkl
      go_wp2
      go_region
      clear e0 hne hne'
      obtain ⟨s1,hs1⟩ : ∃ s1,IntKind.u64.wrap (bits BinOp.xor IntKind.u64 s (IntKind.u64.wrap x) * 15485907386658061715) = s1 := ⟨_,rfl⟩
      rw [hs1]
      clear hs1
      go_wp2
      go_region
      go_wp2
      go_roundw
      case rel =>
        exact ⟨k + 1,_,t,by omega,by go_num,((Hb.out.put1 _).put1 _),((HB.out.setCell (Nat.le_refl _) _).setCell (Nat.le_refl _) _).drew.drew⟩
      case measure => simp [intOf]; omega
    · obtain rfl : k = n := by omega
      go_wp2
      go_ret
      exact ⟨s,t,rfl,hb,hB⟩
end Go.Proofs.YtljefjngmembkaaGreatDoor
