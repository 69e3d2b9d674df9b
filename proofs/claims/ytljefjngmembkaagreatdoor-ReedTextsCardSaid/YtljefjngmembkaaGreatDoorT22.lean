/- Part 22 of the proof: RtA, RtB. -/
import Derived.Test.YtljefjngmembkaaGreatDoorT12
namespace Go.Proofs.YtljefjngmembkaaGreatDoor
set_option linter.all false
open Go.RowKit
set_option maxHeartbeats 2000000 in
set_option maxRecDepth 100000 in
theorem told_any (a b : Int) (ha : In64 a) (hb : In64 b) (A B : ByteArray) (hA : (⟨(Lib.itoa a).toArray⟩ : ByteArray) = A) (hB : (⟨(Lib.itoa b).toArray⟩ : ByteArray) = B) (hs : A.size ≤ 100 ∧ B.size ≤ 100) (w : World) (h : LibW w) :
    Calls Tryz.prog 33 #[.agg #[.int .i64 a,.int .i64 b]] w fun e w' => e = .returned (.string (A ++ ⟨#[58]⟩ ++ B)) ∧ Below w.heap.size w w' := by
  have HA : Hid (∀ w',LibW w' → Calls Tryz.prog 31 #[.int .i64 a] w' fun e w'' => e = .returned (.string A) ∧ Below w'.heap.size w' w'') := fun w' hl => itoa_any a ⟨by have := ha.1; omega,by have := ha.2; omega⟩ A hA w' hl
  have HB : Hid (∀ w',LibW w' → Calls Tryz.prog 31 #[.int .i64 b] w' fun e w'' => e = .returned (.string B) ∧ Below w'.heap.size w' w'') := fun w' hl => itoa_any b ⟨by have := hb.1; omega,by have := hb.2; omega⟩ B hB w' hl
  have Hh : Hid (LibW w) := h
  clear hA hB ha hb h
  obtain ⟨hs1,hs2⟩ := hs
  have hS := XS.new w #[.int .i64 a,.int .i64 b]
  go_enter Tryz.func33,Tryz.ntmps33
  go_wp2_with fail
  refine region_via (R := fun a_ e a' w' => e = .normal ∧ ∃ (v3 v4 v5 v6 v7 v8 v9 v10 : Value),a' = (((((((((a_.put (some 3) v3).put (some 4) v4).put (some 5) v5).put (some 6) v6).put (some 7) v7).put (some 8) v8).put (some 9) v9).put (some 10) v10).put (some 2) (.string (A ++ ⟨#[58]⟩ ++ B))) ∧ XS w w' #[.int .i64 a,.int .i64 b]) ?_ ?_
  rotate_left
  · rintro e a' w' ⟨rfl,v3,v4,v5,v6,v7,v8,v9,v10,rfl,hs'⟩
    simp only [Act.put,aT,aZ,aS]
    have HS' := hidMk hs'
    clear hS hs'
    go_wp2_with fail
    go_ret
    exact ⟨rfl,HS'.out.1⟩
  refine wp_region_held_drew (S := fun w' => XS w w' #[.int .i64 a,.int .i64 b]) (by kernel_rfl) hS.drew (fun hS0 => ?_)
  generalize hWd : World.drew (w.alloc _) = wd at hS0 ⊢
  clear hWd hS
  refine wT (i := 0) (v := ?_) rfl (.inl ⟨by rfl,?_⟩) ?_
  rotate_left
  · (intro w' hSw; (try dsimp only at hSw); go_simp <;> with_reducible rfl)
  (try simp only [Act.put,aT,aZ,aS])
  refine wT (i := 1) (v := ?_) rfl (.inl ⟨by rfl,?_⟩) ?_
  rotate_left
  · (intro w' hSw; (try dsimp only at hSw); have j0 := hSw.2.at_ 0 (.int .i64 a) rfl; go_simp <;> with_reducible rfl)
  (try simp only [Act.put,aT,aZ,aS])
  refine wT (i := 4) (v := ?_) rfl (.inl ⟨by rfl,?_⟩) ?_
  rotate_left
  · (intro w' hSw; (try dsimp only at hSw); go_simp <;> with_reducible rfl)
  (try simp only [Act.put,aT,aZ,aS])
  refine wT (i := 5) (v := ?_) rfl (.inl ⟨by rfl,?_⟩) ?_
  rotate_left
  · (intro w' hSw; (try dsimp only at hSw); have j1 := hSw.2.at_ 1 (.int .i64 b) rfl; go_simp <;> with_reducible rfl)
  (try simp only [Act.put,aT,aZ,aS])
  refine wpAnyH_ready (rs := [2]) (by kernel_rfl) (by simp) ?_
  refine AllReadyH.cons rfl (fun K hK => ?_) ?_
  · go_simp
    go_at_call 31
    refine (HA.out _ (Hh.out.up hS0.1)).mono ?_
    rintro e w2 ⟨rfl,hb2⟩
    go_wp2_with fail
    have hS2 : XS w w2 #[.int .i64 a,.int .i64 b] := hS0.next hb2
    clear hb2
    refine hK.out _ _ hS2 (fun _ => ?_)
    clear hK K
    (try simp only [Act.put,aT,aZ,aS])
    refine wT (i := 3) (v := ?_) rfl (.inl ⟨by rfl,?_⟩) ?_
    rotate_left
    · (intro w' hSw; (try dsimp only at hSw); have z1 : ¬ 9223372036854775807 < A.size + 1 := (by omega); go_simp <;> with_reducible rfl)
    (try simp only [Act.put,aT,aZ,aS])
    refine wpAnyH_ready (rs := [6]) (by kernel_rfl) (by simp) ?_
    refine AllReadyH.cons rfl (fun K hK => ?_) ?_
    · go_simp
      go_at_call 31
      refine (HB.out _ (Hh.out.up hS2.1)).mono ?_
      rintro e w3 ⟨rfl,hb2⟩
      go_wp2_with fail
      have hS3 : XS w w3 #[.int .i64 a,.int .i64 b] := hS2.next hb2
      clear hb2
      refine hK.out _ _ hS3 (fun _ => ?_)
      clear hK K
      (try simp only [Act.put,aT,aZ,aS])
      refine wT (i := 7) (v := ?_) rfl (.inl ⟨by rfl,?_⟩) ?_
      rotate_left
      · (intro w' hSw; (try dsimp only at hSw); have z2 : ¬ 9223372036854775807 < A.size + 1 + B.size := (by omega); go_simp <;> with_reducible rfl)
      (try simp only [Act.put,aT,aZ,aS])
      refine wpAnyH_ready (rs := [8]) (by kernel_rfl) (by simp) ?_
      refine AllReadyH.cons rfl (fun K hK => ?_) ?_
      · go_simp
        refine hK.out _ _ hS3 (fun _ => ?_)
        clear hK K
        (try simp only [Act.put,aT,aZ,aS])
        refine wpAnyH_done (by kernel_rfl) ?_ _
        exact ⟨rfl,_,_,_,_,_,_,_,_,rfl,hS3⟩
      exact AllReadyH.nil
    exact AllReadyH.nil
  exact AllReadyH.nil
end Go.Proofs.YtljefjngmembkaaGreatDoor
namespace Go.Proofs.YtljefjngmembkaaGreatDoor
set_option linter.all false
open Go.RowKit
def ToOK (a b : Int) (T : ByteArray) : Prop := ∀ w',LibW w' → Calls Tryz.prog 33 #[.agg #[.int .i64 a,.int .i64 b]] w' fun e w'' => e = .returned (.string T) ∧ Below w'.heap.size w' w''
set_option maxHeartbeats 2000000 in
set_option maxRecDepth 100000 in
theorem rwr4 {w0 w : World} {g : Nat} {J : Jb} {s : Value} {Q : Exit → Act → World → Prop} {u0 u2 u3 u4 u5 u6 u7 u8 u9 A0 A1 A2 A3 A4 A5 A6 A7 A8 A9 Aa Ab Ac Ad Ae Af Ag Ah Ai Aj Ak Al Am An Ao Ap Aq Ar As At Au Av Aw Ax Ay Az C0 C1 C2 C3 C4 C5 C6 C7 C8 C9 Ca Cb Cc Cd Ce Cf Cg Ch Ci Cj Ck Cl Cm Cn Co Cp Cq Cr Cs Ct Cu Cv Cw Cx Cy Cz D0 D1 D2 D3 D4 D5 D6 D7 D8 : Value} (hl : LibW w0) (hs : WS w0 w g (jobC J s)) {T1 T2 T3 : ByteArray} (H1 : Hid (ToOK J.p1 J.p2 T1)) (H2 : Hid (ToOK J.t1 J.t2 T2)) (H3 : Hid (ToOK J.r1 J.r2 T3)) (hz : T1.size ≤ 100 ∧ T2.size ≤ 100 ∧ T3.size ≤ 100) (hK : ∀ w' : World,WS w0 w' g (jobC J s) → ∀ (v12 v13 v14 v15 v16 v17 v18 v19 v20 v21 v22 v23 v24 v25 v26 v27 v28 v29 : Value),Q .normal ⟨#[u0,(.pointer (some ⟨g,0,none⟩)),u2,u3,u4,(.string ((((((⟨#[116,111,110,103,117,101,32]⟩ ++ T1) ++ ⟨#[32]⟩) ++ T2) ++ ⟨#[32]⟩) ++ T3) ++ ⟨#[10]⟩)),u6,u7,u8,u9,A0,A1,v12,v13,v14,v15,v16,v17,v18,v19,v20,v21,v22,v23,v24,v25,v26,v27,v28,v29,Ak,Al,Am,An,Ao,Ap,Aq,Ar,As,At,Au,Av,Aw,Ax,Ay,Az,C0,C1,C2,C3,C4,C5,C6,C7,C8,C9,Ca,Cb,Cc,Cd,Ce,Cf,Cg,Ch,Ci,Cj,Ck,Cl,Cm,Cn,Co,Cp,Cq,Cr,Cs,Ct,Cu,Cv,Cw,Cx,Cy,Cz,D0,D1,D2,D3,D4,D5,D6,D7,D8],[]⟩ w') : Code.wp Tryz.prog (Code.region 4 #[⟨some 12,.fieldAddr 30 (.tmp 1) 0,0,"text.go:17",#[],none⟩,⟨some 13,.fieldAddr 25 (.tmp 12) 0,0,"text.go:17",#[⟨0,.data⟩],none⟩,⟨some 14,.load 23 (.tmp 13),23,"text.go:17",#[⟨1,.data⟩],none⟩,⟨some 15,.call { callee := .value (.func 33),args := #[.tmp 14],argTypes := #[23] },9,"text.go:17",#[⟨2,.data⟩],none⟩,⟨some 16,.binOp .add 9 (.const (.string { data := #[116,111,110,103,117,101,32] })) (.tmp 15) 9,9,"text.go:17",#[⟨3,.data⟩],none⟩,⟨some 17,.binOp .add 9 (.tmp 16) (.const (.string { data := #[32] })) 9,9,"text.go:17",#[⟨4,.data⟩],none⟩,⟨some 18,.fieldAddr 30 (.tmp 1) 0,0,"text.go:17",#[],none⟩,⟨some 19,.fieldAddr 25 (.tmp 18) 1,0,"text.go:17",#[⟨6,.data⟩],none⟩,⟨some 20,.load 23 (.tmp 19),23,"text.go:17",#[⟨7,.data⟩],none⟩,⟨some 21,.call { callee := .value (.func 33),args := #[.tmp 20],argTypes := #[23] },9,"text.go:17",#[⟨8,.data⟩,⟨3,.chain⟩],none⟩,⟨some 22,.binOp .add 9 (.tmp 17) (.tmp 21) 9,9,"text.go:17",#[⟨5,.data⟩,⟨9,.data⟩],none⟩,⟨some 23,.binOp .add 9 (.tmp 22) (.const (.string { data := #[32] })) 9,9,"text.go:17",#[⟨10,.data⟩],none⟩,⟨some 24,.fieldAddr 30 (.tmp 1) 0,0,"text.go:17",#[],none⟩,⟨some 25,.fieldAddr 25 (.tmp 24) 2,0,"text.go:17",#[⟨12,.data⟩],none⟩,⟨some 26,.load 23 (.tmp 25),23,"text.go:17",#[⟨13,.data⟩],none⟩,⟨some 27,.call { callee := .value (.func 33),args := #[.tmp 26],argTypes := #[23] },9,"text.go:17",#[⟨14,.data⟩,⟨9,.chain⟩],none⟩,⟨some 28,.binOp .add 9 (.tmp 23) (.tmp 27) 9,9,"text.go:17",#[⟨11,.data⟩,⟨15,.data⟩],none⟩,⟨some 29,.binOp .add 9 (.tmp 28) (.const (.string { data := #[10] })) 9,9,"text.go:17",#[⟨16,.data⟩],none⟩,⟨some 5,.assign (.tmp 29),9,"text.go:17",#[⟨17,.data⟩,⟨15,.chain⟩,⟨0,.phase⟩,⟨1,.phase⟩,⟨2,.phase⟩,⟨3,.phase⟩,⟨4,.phase⟩,⟨5,.phase⟩,⟨6,.phase⟩,⟨7,.phase⟩,⟨8,.phase⟩,⟨9,.phase⟩,⟨10,.phase⟩,⟨11,.phase⟩,⟨12,.phase⟩,⟨13,.phase⟩,⟨14,.phase⟩,⟨15,.phase⟩,⟨16,.phase⟩,⟨17,.phase⟩],none⟩] true) Q ⟨#[u0,(.pointer (some ⟨g,0,none⟩)),u2,u3,u4,u5,u6,u7,u8,u9,A0,A1,A2,A3,A4,A5,A6,A7,A8,A9,Aa,Ab,Ac,Ad,Ae,Af,Ag,Ah,Ai,Aj,Ak,Al,Am,An,Ao,Ap,Aq,Ar,As,At,Au,Av,Aw,Ax,Ay,Az,C0,C1,C2,C3,C4,C5,C6,C7,C8,C9,Ca,Cb,Cc,Cd,Ce,Cf,Cg,Ch,Ci,Cj,Ck,Cl,Cm,Cn,Co,Cp,Cq,Cr,Cs,Ct,Cu,Cv,Cw,Cx,Cy,Cz,D0,D1,D2,D3,D4,D5,D6,D7,D8],[]⟩ w := by
  have Hh := hidMk hl
  have HK := hidMk hK
  clear hl hK
  refine region_via (R := fun a_ e_ a' w' => e_ = .normal ∧ ∃ (v12 v13 v14 v15 v16 v17 v18 v19 v20 v21 v22 v23 v24 v25 v26 v27 v28 v29 : Value),a' = (((((((((((((((((((a_.put (some 12) v12).put (some 13) v13).put (some 14) v14).put (some 15) v15).put (some 16) v16).put (some 17) v17).put (some 18) v18).put (some 19) v19).put (some 20) v20).put (some 21) v21).put (some 22) v22).put (some 23) v23).put (some 24) v24).put (some 25) v25).put (some 26) v26).put (some 27) v27).put (some 28) v28).put (some 29) v29).put (some 5) (.string ((((((⟨#[116,111,110,103,117,101,32]⟩ ++ T1) ++ ⟨#[32]⟩) ++ T2) ++ ⟨#[32]⟩) ++ T3) ++ ⟨#[10]⟩))) ∧ WS w0 w' g (jobC J s)) ?_ ?_
  rotate_left
  · rintro e_ a' w' ⟨rfl,v12,v13,v14,v15,v16,v17,v18,v19,v20,v21,v22,v23,v24,v25,v26,v27,v28,v29,rfl,h1⟩
    simp only [Act.put,aT,aZ,aS]
    exact HK.out _ h1 _ _ _ _ _ _ _ _ _ _ _ _ _ _ _ _ _ _ 
  have hS := hs.drew
  clear hs
  refine wp_region_held_drew (S := fun w' => WS w0 w' g (jobC J s)) (by kernel_rfl) hS (fun hS0 => ?_)
  clear hS0
  generalize w.drew = w1 at hS ⊢
  refine wT (i := 0) (v := ?_) rfl (.inl ⟨by rfl,?_⟩) ?_
  rotate_left
  · (intro w' hSw; (try dsimp only at hSw); go_simp <;> with_reducible rfl)
  (try simp only [Act.put,aT,aZ,aS])
  refine wT (i := 1) (v := ?_) rfl (.inl ⟨by rfl,?_⟩) ?_
  rotate_left
  · (intro w' hSw; (try dsimp only at hSw); go_simp <;> with_reducible rfl)
  (try simp only [Act.put,aT,aZ,aS])
  refine wT (i := 2) (v := ?_) rfl (.inl ⟨by rfl,?_⟩) ?_
  rotate_left
  · (intro w' hSw; (try dsimp only at hSw); (have j0 := hSw.2.at_ 0 (.int .i64 J.p1) rfl; have j1 := hSw.2.at_ 1 (.int .i64 J.p2) rfl); go_simp <;> with_reducible rfl)
  (try simp only [Act.put,aT,aZ,aS])
  refine wT (i := 6) (v := ?_) rfl (.inl ⟨by rfl,?_⟩) ?_
  rotate_left
  · (intro w' hSw; (try dsimp only at hSw); go_simp <;> with_reducible rfl)
  (try simp only [Act.put,aT,aZ,aS])
  refine wT (i := 7) (v := ?_) rfl (.inl ⟨by rfl,?_⟩) ?_
  rotate_left
  · (intro w' hSw; (try dsimp only at hSw); go_simp <;> with_reducible rfl)
  (try simp only [Act.put,aT,aZ,aS])
  refine wT (i := 8) (v := ?_) rfl (.inl ⟨by rfl,?_⟩) ?_
  rotate_left
  · (intro w' hSw; (try dsimp only at hSw); (have j0 := hSw.2.at_ 2 (.int .i64 J.t1) rfl; have j1 := hSw.2.at_ 3 (.int .i64 J.t2) rfl); go_simp <;> with_reducible rfl)
  (try simp only [Act.put,aT,aZ,aS])
  refine wT (i := 12) (v := ?_) rfl (.inl ⟨by rfl,?_⟩) ?_
  rotate_left
  · (intro w' hSw; (try dsimp only at hSw); go_simp <;> with_reducible rfl)
  (try simp only [Act.put,aT,aZ,aS])
  refine wT (i := 13) (v := ?_) rfl (.inl ⟨by rfl,?_⟩) ?_
  rotate_left
  · (intro w' hSw; (try dsimp only at hSw); go_simp <;> with_reducible rfl)
  (try simp only [Act.put,aT,aZ,aS])
  refine wT (i := 14) (v := ?_) rfl (.inl ⟨by rfl,?_⟩) ?_
  rotate_left
  · (intro w' hSw; (try dsimp only at hSw); (have j0 := hSw.2.at_ 4 (.int .i64 J.r1) rfl; have j1 := hSw.2.at_ 5 (.int .i64 J.r2) rfl); go_simp <;> with_reducible rfl)
  (try simp only [Act.put,aT,aZ,aS])
  refine wpAnyH_ready (rs := [3]) (by kernel_rfl) (by simp) ?_
  refine AllReadyH.cons rfl (fun K hK => ?_) ?_
  · go_simp
    go_at_call 33
    refine (H1.out _ (Hh.out.keep hS.1 Hh.out.room)).mono ?_
    rintro e w2 ⟨rfl,hb2⟩
    go_wp2_with fail
    have hS_ := hS.next hb2
    clear hb2 hS
    refine hK.out _ _ hS_ (fun _ => ?_)
    have hS := hS_
    clear hS_
    clear hK K
    (try simp only [Act.put,aT,aZ,aS])
    refine wT (i := 4) (v := ?_) rfl (.inl ⟨by rfl,?_⟩) ?_
    rotate_left
    · (intro w' hSw; (try dsimp only at hSw); (have z0 : ¬ 9223372036854775807 < 7 + T1.size := (by omega)); go_simp <;> with_reducible rfl)
    (try simp only [Act.put,aT,aZ,aS])
    refine wT (i := 5) (v := ?_) rfl (.inl ⟨by rfl,?_⟩) ?_
    rotate_left
    · (intro w' hSw; (try dsimp only at hSw); (have z0 : ¬ 9223372036854775807 < 7 + T1.size + 1 := (by omega)); go_simp <;> with_reducible rfl)
    (try simp only [Act.put,aT,aZ,aS])
    refine wpAnyH_ready (rs := [9]) (by kernel_rfl) (by simp) ?_
    refine AllReadyH.cons rfl (fun K hK => ?_) ?_
    · go_simp
      go_at_call 33
      refine (H2.out _ (Hh.out.keep hS.1 Hh.out.room)).mono ?_
      rintro e w3 ⟨rfl,hb2⟩
      go_wp2_with fail
      have hS_ := hS.next hb2
      clear hb2 hS
      refine hK.out _ _ hS_ (fun _ => ?_)
      have hS := hS_
      clear hS_
      clear hK K
      (try simp only [Act.put,aT,aZ,aS])
      refine wT (i := 10) (v := ?_) rfl (.inl ⟨by rfl,?_⟩) ?_
      rotate_left
      · (intro w' hSw; (try dsimp only at hSw); (have z0 : ¬ 9223372036854775807 < 7 + T1.size + 1 + T2.size := (by omega)); go_simp <;> with_reducible rfl)
      (try simp only [Act.put,aT,aZ,aS])
      refine wT (i := 11) (v := ?_) rfl (.inl ⟨by rfl,?_⟩) ?_
      rotate_left
      · (intro w' hSw; (try dsimp only at hSw); (have z0 : ¬ 9223372036854775807 < 7 + T1.size + 1 + T2.size + 1 := (by omega)); go_simp <;> with_reducible rfl)
      (try simp only [Act.put,aT,aZ,aS])
      refine wpAnyH_ready (rs := [15]) (by kernel_rfl) (by simp) ?_
      refine AllReadyH.cons rfl (fun K hK => ?_) ?_
      · go_simp
        go_at_call 33
        refine (H3.out _ (Hh.out.keep hS.1 Hh.out.room)).mono ?_
        rintro e w4 ⟨rfl,hb2⟩
        go_wp2_with fail
        have hS_ := hS.next hb2
        clear hb2 hS
        refine hK.out _ _ hS_ (fun _ => ?_)
        have hS := hS_
        clear hS_
        clear hK K
        (try simp only [Act.put,aT,aZ,aS])
        refine wT (i := 16) (v := ?_) rfl (.inl ⟨by rfl,?_⟩) ?_
        rotate_left
        · (intro w' hSw; (try dsimp only at hSw); (have z0 : ¬ 9223372036854775807 < 7 + T1.size + 1 + T2.size + 1 + T3.size := (by omega)); go_simp <;> with_reducible rfl)
        (try simp only [Act.put,aT,aZ,aS])
        refine wT (i := 17) (v := ?_) rfl (.inl ⟨by rfl,?_⟩) ?_
        rotate_left
        · (intro w' hSw; (try dsimp only at hSw); (have z0 : ¬ 9223372036854775807 < 7 + T1.size + 1 + T2.size + 1 + T3.size + 1 := (by omega)); go_simp <;> with_reducible rfl)
        (try simp only [Act.put,aT,aZ,aS])
        refine wpAnyH_ready (rs := [18]) (by kernel_rfl) (by simp) ?_
        refine AllReadyH.cons rfl (fun K hK => ?_) ?_
        · go_simp
          refine hK.out _ _ hS (fun _ => ?_)
          clear hK K
          (try simp only [Act.put,aT,aZ,aS])
          refine wpAnyH_done (by kernel_rfl) ?_ _
          exact ⟨rfl,_,_,_,_,_,_,_,_,_,_,_,_,_,_,_,_,_,_,rfl,hS⟩
        exact AllReadyH.nil
      exact AllReadyH.nil
    exact AllReadyH.nil
  exact AllReadyH.nil
set_option maxHeartbeats 2000000 in
set_option maxRecDepth 100000 in
theorem rwr5 {w0 w : World} {g : Nat} {J : Jb} {s : Value} {Q : Exit → Act → World → Prop} {u0 u2 u3 u4 u6 u7 u8 u9 A0 A1 A2 A3 A4 A5 A6 A7 A8 A9 Aa Ab Ac Ad Ae Af Ag Ah Ai Aj Ak Al Am An Ao Ap Aq Ar As At Au Av Aw Ax Ay Az C0 C1 C2 C3 C4 C5 C6 C7 C8 C9 Ca Cb Cc Cd Ce Cf Cg Ch Ci Cj Ck Cl Cm Cn Co Cp Cq Cr Cs Ct Cu Cv Cw Cx Cy Cz D0 D1 D2 D3 D4 D5 D6 D7 D8 : Value} (hl : LibW w0) (hs : WS w0 w g (jobC J s)) {T0 T1 T2 T3 T4 T5 : ByteArray} (H1 : Hid (ToOK J.u1 J.u2 T1)) (H2 : Hid (ToOK J.d1 J.d2 T2)) (H3 : Hid (ToOK J.x1 J.x2 T3)) (H4 : Hid (ToOK J.y1 J.y2 T4)) (H5 : Hid (ItOK J.le T5)) (hz : T0.size ≤ 1000000 ∧ T1.size ≤ 100 ∧ T2.size ≤ 100 ∧ T3.size ≤ 100 ∧ T4.size ≤ 100 ∧ T5.size ≤ 100) (hK : ∀ w' : World,WS w0 w' g (jobC J s) → ∀ (v30 v31 v32 v33 v34 v35 v36 v37 v38 v39 v40 v41 v42 v43 v44 v45 v46 v47 v48 v49 v50 v51 v52 v53 v54 v55 v56 v57 v58 v59 v60 v61 : Value),Q .normal ⟨#[u0,(.pointer (some ⟨g,0,none⟩)),u2,u3,u4,(.string (((((((((((T0 ++ ⟨#[102,105,108,101,32]⟩) ++ T1) ++ ⟨#[32]⟩) ++ T2) ++ ⟨#[32]⟩) ++ T3) ++ ⟨#[32]⟩) ++ T4) ++ ⟨#[32]⟩) ++ T5) ++ ⟨#[10]⟩)),u6,u7,u8,u9,A0,A1,A2,A3,A4,A5,A6,A7,A8,A9,Aa,Ab,Ac,Ad,Ae,Af,Ag,Ah,Ai,Aj,v30,v31,v32,v33,v34,v35,v36,v37,v38,v39,v40,v41,v42,v43,v44,v45,v46,v47,v48,v49,v50,v51,v52,v53,v54,v55,v56,v57,v58,v59,v60,v61,Cg,Ch,Ci,Cj,Ck,Cl,Cm,Cn,Co,Cp,Cq,Cr,Cs,Ct,Cu,Cv,Cw,Cx,Cy,Cz,D0,D1,D2,D3,D4,D5,D6,D7,D8],[]⟩ w') : Code.wp Tryz.prog (Code.region 5 #[⟨some 30,.move (.tmp 5),9,"text.go:18",#[],none⟩,⟨some 31,.binOp .add 9 (.tmp 30) (.const (.string { data := #[102,105,108,101,32] })) 9,9,"text.go:18",#[⟨0,.data⟩],none⟩,⟨some 32,.fieldAddr 30 (.tmp 1) 1,0,"text.go:18",#[],none⟩,⟨some 33,.fieldAddr 27 (.tmp 32) 0,0,"text.go:18",#[⟨2,.data⟩],none⟩,⟨some 34,.load 23 (.tmp 33),23,"text.go:18",#[⟨3,.data⟩],none⟩,⟨some 35,.call { callee := .value (.func 33),args := #[.tmp 34],argTypes := #[23] },9,"text.go:18",#[⟨4,.data⟩],none⟩,⟨some 36,.binOp .add 9 (.tmp 31) (.tmp 35) 9,9,"text.go:18",#[⟨1,.data⟩,⟨5,.data⟩],none⟩,⟨some 37,.binOp .add 9 (.tmp 36) (.const (.string { data := #[32] })) 9,9,"text.go:18",#[⟨6,.data⟩],none⟩,⟨some 38,.fieldAddr 30 (.tmp 1) 1,0,"text.go:18",#[],none⟩,⟨some 39,.fieldAddr 27 (.tmp 38) 1,0,"text.go:18",#[⟨8,.data⟩],none⟩,⟨some 40,.load 23 (.tmp 39),23,"text.go:18",#[⟨9,.data⟩],none⟩,⟨some 41,.call { callee := .value (.func 33),args := #[.tmp 40],argTypes := #[23] },9,"text.go:18",#[⟨10,.data⟩,⟨5,.chain⟩],none⟩,⟨some 42,.binOp .add 9 (.tmp 37) (.tmp 41) 9,9,"text.go:18",#[⟨7,.data⟩,⟨11,.data⟩],none⟩,⟨some 43,.binOp .add 9 (.tmp 42) (.const (.string { data := #[32] })) 9,9,"text.go:18",#[⟨12,.data⟩],none⟩,⟨some 44,.fieldAddr 30 (.tmp 1) 1,0,"text.go:18",#[],none⟩,⟨some 45,.fieldAddr 27 (.tmp 44) 2,0,"text.go:18",#[⟨14,.data⟩],none⟩,⟨some 46,.load 23 (.tmp 45),23,"text.go:18",#[⟨15,.data⟩],none⟩,⟨some 47,.call { callee := .value (.func 33),args := #[.tmp 46],argTypes := #[23] },9,"text.go:18",#[⟨16,.data⟩,⟨11,.chain⟩],none⟩,⟨some 48,.binOp .add 9 (.tmp 43) (.tmp 47) 9,9,"text.go:18",#[⟨13,.data⟩,⟨17,.data⟩],none⟩,⟨some 49,.binOp .add 9 (.tmp 48) (.const (.string { data := #[32] })) 9,9,"text.go:18",#[⟨18,.data⟩],none⟩,⟨some 50,.fieldAddr 30 (.tmp 1) 1,0,"text.go:18",#[],none⟩,⟨some 51,.fieldAddr 27 (.tmp 50) 3,0,"text.go:18",#[⟨20,.data⟩],none⟩,⟨some 52,.load 23 (.tmp 51),23,"text.go:18",#[⟨21,.data⟩],none⟩,⟨some 53,.call { callee := .value (.func 33),args := #[.tmp 52],argTypes := #[23] },9,"text.go:18",#[⟨22,.data⟩,⟨17,.chain⟩],none⟩,⟨some 54,.binOp .add 9 (.tmp 49) (.tmp 53) 9,9,"text.go:18",#[⟨19,.data⟩,⟨23,.data⟩],none⟩,⟨some 55,.binOp .add 9 (.tmp 54) (.const (.string { data := #[32] })) 9,9,"text.go:18",#[⟨24,.data⟩],none⟩,⟨some 56,.fieldAddr 30 (.tmp 1) 1,0,"text.go:18",#[],none⟩,⟨some 57,.fieldAddr 27 (.tmp 56) 4,0,"text.go:18",#[⟨26,.data⟩],none⟩,⟨some 58,.load 3 (.tmp 57),3,"text.go:18",#[⟨27,.data⟩],none⟩,⟨some 59,.call { callee := .value (.func 31),args := #[.tmp 58],argTypes := #[3] },9,"text.go:18",#[⟨28,.data⟩,⟨23,.chain⟩],none⟩,⟨some 60,.binOp .add 9 (.tmp 55) (.tmp 59) 9,9,"text.go:18",#[⟨25,.data⟩,⟨29,.data⟩],none⟩,⟨some 61,.binOp .add 9 (.tmp 60) (.const (.string { data := #[10] })) 9,9,"text.go:18",#[⟨30,.data⟩],none⟩,⟨some 5,.assign (.tmp 61),9,"text.go:18",#[⟨31,.data⟩,⟨29,.chain⟩,⟨0,.phase⟩,⟨1,.phase⟩,⟨2,.phase⟩,⟨3,.phase⟩,⟨4,.phase⟩,⟨5,.phase⟩,⟨6,.phase⟩,⟨7,.phase⟩,⟨8,.phase⟩,⟨9,.phase⟩,⟨10,.phase⟩,⟨11,.phase⟩,⟨12,.phase⟩,⟨13,.phase⟩,⟨14,.phase⟩,⟨15,.phase⟩,⟨16,.phase⟩,⟨17,.phase⟩,⟨18,.phase⟩,⟨19,.phase⟩,⟨20,.phase⟩,⟨21,.phase⟩,⟨22,.phase⟩,⟨23,.phase⟩,⟨24,.phase⟩,⟨25,.phase⟩,⟨26,.phase⟩,⟨27,.phase⟩,⟨28,.phase⟩,⟨29,.phase⟩,⟨30,.phase⟩,⟨31,.phase⟩],none⟩] true) Q ⟨#[u0,(.pointer (some ⟨g,0,none⟩)),u2,u3,u4,(.string T0),u6,u7,u8,u9,A0,A1,A2,A3,A4,A5,A6,A7,A8,A9,Aa,Ab,Ac,Ad,Ae,Af,Ag,Ah,Ai,Aj,Ak,Al,Am,An,Ao,Ap,Aq,Ar,As,At,Au,Av,Aw,Ax,Ay,Az,C0,C1,C2,C3,C4,C5,C6,C7,C8,C9,Ca,Cb,Cc,Cd,Ce,Cf,Cg,Ch,Ci,Cj,Ck,Cl,Cm,Cn,Co,Cp,Cq,Cr,Cs,Ct,Cu,Cv,Cw,Cx,Cy,Cz,D0,D1,D2,D3,D4,D5,D6,D7,D8],[]⟩ w := by
  have Hh := hidMk hl
  have HK := hidMk hK
  clear hl hK
  refine region_via (R := fun a_ e_ a' w' => e_ = .normal ∧ ∃ (v30 v31 v32 v33 v34 v35 v36 v37 v38 v39 v40 v41 v42 v43 v44 v45 v46 v47 v48 v49 v50 v51 v52 v53 v54 v55 v56 v57 v58 v59 v60 v61 : Value),a' = (((((((((((((((((((((((((((((((((a_.put (some 30) v30).put (some 31) v31).put (some 32) v32).put (some 33) v33).put (some 34) v34).put (some 35) v35).put (some 36) v36).put (some 37) v37).put (some 38) v38).put (some 39) v39).put (some 40) v40).put (some 41) v41).put (some 42) v42).put (some 43) v43).put (some 44) v44).put (some 45) v45).put (some 46) v46).put (some 47) v47).put (some 48) v48).put (some 49) v49).put (some 50) v50).put (some 51) v51).put (some 52) v52).put (some 53) v53).put (some 54) v54).put (some 55) v55).put (some 56) v56).put (some 57) v57).put (some 58) v58).put (some 59) v59).put (some 60) v60).put (some 61) v61).put (some 5) (.string (((((((((((T0 ++ ⟨#[102,105,108,101,32]⟩) ++ T1) ++ ⟨#[32]⟩) ++ T2) ++ ⟨#[32]⟩) ++ T3) ++ ⟨#[32]⟩) ++ T4) ++ ⟨#[32]⟩) ++ T5) ++ ⟨#[10]⟩))) ∧ WS w0 w' g (jobC J s)) ?_ ?_
  rotate_left
  · rintro e_ a' w' ⟨rfl,v30,v31,v32,v33,v34,v35,v36,v37,v38,v39,v40,v41,v42,v43,v44,v45,v46,v47,v48,v49,v50,v51,v52,v53,v54,v55,v56,v57,v58,v59,v60,v61,rfl,h1⟩
    simp only [Act.put,aT,aZ,aS]
    exact HK.out _ h1 _ _ _ _ _ _ _ _ _ _ _ _ _ _ _ _ _ _ _ _ _ _ _ _ _ _ _ _ _ _ _ _ 
  have hS := hs.drew
  clear hs
  refine wp_region_held_drew (S := fun w' => WS w0 w' g (jobC J s)) (by kernel_rfl) hS (fun hS0 => ?_)
  clear hS0
  generalize w.drew = w1 at hS ⊢
  refine wT (i := 0) (v := ?_) rfl (.inl ⟨by rfl,?_⟩) ?_
  rotate_left
  · (intro w' hSw; (try dsimp only at hSw); go_simp <;> with_reducible rfl)
  (try simp only [Act.put,aT,aZ,aS])
  refine wT (i := 1) (v := ?_) rfl (.inl ⟨by rfl,?_⟩) ?_
  rotate_left
  · (intro w' hSw; (try dsimp only at hSw); (have z0 : ¬ 9223372036854775807 < T0.size + 5 := (by omega)); go_simp <;> with_reducible rfl)
  (try simp only [Act.put,aT,aZ,aS])
  refine wT (i := 2) (v := ?_) rfl (.inl ⟨by rfl,?_⟩) ?_
  rotate_left
  · (intro w' hSw; (try dsimp only at hSw); go_simp <;> with_reducible rfl)
  (try simp only [Act.put,aT,aZ,aS])
  refine wT (i := 3) (v := ?_) rfl (.inl ⟨by rfl,?_⟩) ?_
  rotate_left
  · (intro w' hSw; (try dsimp only at hSw); go_simp <;> with_reducible rfl)
  (try simp only [Act.put,aT,aZ,aS])
  refine wT (i := 4) (v := ?_) rfl (.inl ⟨by rfl,?_⟩) ?_
  rotate_left
  · (intro w' hSw; (try dsimp only at hSw); (have j0 := hSw.2.at_ 6 (.int .i64 J.u1) rfl; have j1 := hSw.2.at_ 7 (.int .i64 J.u2) rfl); go_simp <;> with_reducible rfl)
  (try simp only [Act.put,aT,aZ,aS])
  refine wT (i := 8) (v := ?_) rfl (.inl ⟨by rfl,?_⟩) ?_
  rotate_left
  · (intro w' hSw; (try dsimp only at hSw); go_simp <;> with_reducible rfl)
  (try simp only [Act.put,aT,aZ,aS])
  refine wT (i := 9) (v := ?_) rfl (.inl ⟨by rfl,?_⟩) ?_
  rotate_left
  · (intro w' hSw; (try dsimp only at hSw); go_simp <;> with_reducible rfl)
  (try simp only [Act.put,aT,aZ,aS])
  refine wT (i := 10) (v := ?_) rfl (.inl ⟨by rfl,?_⟩) ?_
  rotate_left
  · (intro w' hSw; (try dsimp only at hSw); (have j0 := hSw.2.at_ 8 (.int .i64 J.d1) rfl; have j1 := hSw.2.at_ 9 (.int .i64 J.d2) rfl); go_simp <;> with_reducible rfl)
  (try simp only [Act.put,aT,aZ,aS])
  refine wT (i := 14) (v := ?_) rfl (.inl ⟨by rfl,?_⟩) ?_
  rotate_left
  · (intro w' hSw; (try dsimp only at hSw); go_simp <;> with_reducible rfl)
  (try simp only [Act.put,aT,aZ,aS])
  refine wT (i := 15) (v := ?_) rfl (.inl ⟨by rfl,?_⟩) ?_
  rotate_left
  · (intro w' hSw; (try dsimp only at hSw); go_simp <;> with_reducible rfl)
  (try simp only [Act.put,aT,aZ,aS])
  refine wT (i := 16) (v := ?_) rfl (.inl ⟨by rfl,?_⟩) ?_
  rotate_left
  · (intro w' hSw; (try dsimp only at hSw); (have j0 := hSw.2.at_ 10 (.int .i64 J.x1) rfl; have j1 := hSw.2.at_ 11 (.int .i64 J.x2) rfl); go_simp <;> with_reducible rfl)
  (try simp only [Act.put,aT,aZ,aS])
  refine wT (i := 20) (v := ?_) rfl (.inl ⟨by rfl,?_⟩) ?_
  rotate_left
  · (intro w' hSw; (try dsimp only at hSw); go_simp <;> with_reducible rfl)
  (try simp only [Act.put,aT,aZ,aS])
  refine wT (i := 21) (v := ?_) rfl (.inl ⟨by rfl,?_⟩) ?_
  rotate_left
  · (intro w' hSw; (try dsimp only at hSw); go_simp <;> with_reducible rfl)
  (try simp only [Act.put,aT,aZ,aS])
  refine wT (i := 22) (v := ?_) rfl (.inl ⟨by rfl,?_⟩) ?_
  rotate_left
  · (intro w' hSw; (try dsimp only at hSw); (have j0 := hSw.2.at_ 12 (.int .i64 J.y1) rfl; have j1 := hSw.2.at_ 13 (.int .i64 J.y2) rfl); go_simp <;> with_reducible rfl)
  (try simp only [Act.put,aT,aZ,aS])
  refine wT (i := 26) (v := ?_) rfl (.inl ⟨by rfl,?_⟩) ?_
  rotate_left
  · (intro w' hSw; (try dsimp only at hSw); go_simp <;> with_reducible rfl)
  (try simp only [Act.put,aT,aZ,aS])
  refine wT (i := 27) (v := ?_) rfl (.inl ⟨by rfl,?_⟩) ?_
  rotate_left
  · (intro w' hSw; (try dsimp only at hSw); go_simp <;> with_reducible rfl)
  (try simp only [Act.put,aT,aZ,aS])
  refine wT (i := 28) (v := ?_) rfl (.inl ⟨by rfl,?_⟩) ?_
  rotate_left
  · (intro w' hSw; (try dsimp only at hSw); (have j0 := hSw.2.at_ 14 (.int .i64 J.le) rfl); go_simp <;> with_reducible rfl)
  (try simp only [Act.put,aT,aZ,aS])
  refine wpAnyH_ready (rs := [5]) (by kernel_rfl) (by simp) ?_
  refine AllReadyH.cons rfl (fun K hK => ?_) ?_
  · go_simp
    go_at_call 33
    refine (H1.out _ (Hh.out.keep hS.1 Hh.out.room)).mono ?_
    rintro e w2 ⟨rfl,hb2⟩
    go_wp2_with fail
    have hS_ := hS.next hb2
    clear hb2 hS
    refine hK.out _ _ hS_ (fun _ => ?_)
    have hS := hS_
    clear hS_
    clear hK K
    (try simp only [Act.put,aT,aZ,aS])
    refine wT (i := 6) (v := ?_) rfl (.inl ⟨by rfl,?_⟩) ?_
    rotate_left
    · (intro w' hSw; (try dsimp only at hSw); (have z0 : ¬ 9223372036854775807 < T0.size + 5 + T1.size := (by omega)); go_simp <;> with_reducible rfl)
    (try simp only [Act.put,aT,aZ,aS])
    refine wT (i := 7) (v := ?_) rfl (.inl ⟨by rfl,?_⟩) ?_
    rotate_left
    · (intro w' hSw; (try dsimp only at hSw); (have z0 : ¬ 9223372036854775807 < T0.size + 5 + T1.size + 1 := (by omega)); go_simp <;> with_reducible rfl)
    (try simp only [Act.put,aT,aZ,aS])
    refine wpAnyH_ready (rs := [11]) (by kernel_rfl) (by simp) ?_
    refine AllReadyH.cons rfl (fun K hK => ?_) ?_
    · go_simp
      go_at_call 33
      refine (H2.out _ (Hh.out.keep hS.1 Hh.out.room)).mono ?_
      rintro e w3 ⟨rfl,hb2⟩
      go_wp2_with fail
      have hS_ := hS.next hb2
      clear hb2 hS
      refine hK.out _ _ hS_ (fun _ => ?_)
      have hS := hS_
      clear hS_
      clear hK K
      (try simp only [Act.put,aT,aZ,aS])
      refine wT (i := 12) (v := ?_) rfl (.inl ⟨by rfl,?_⟩) ?_
      rotate_left
      · (intro w' hSw; (try dsimp only at hSw); (have z0 : ¬ 9223372036854775807 < T0.size + 5 + T1.size + 1 + T2.size := (by omega)); go_simp <;> with_reducible rfl)
      (try simp only [Act.put,aT,aZ,aS])
      refine wT (i := 13) (v := ?_) rfl (.inl ⟨by rfl,?_⟩) ?_
      rotate_left
      · (intro w' hSw; (try dsimp only at hSw); (have z0 : ¬ 9223372036854775807 < T0.size + 5 + T1.size + 1 + T2.size + 1 := (by omega)); go_simp <;> with_reducible rfl)
      (try simp only [Act.put,aT,aZ,aS])
      refine wpAnyH_ready (rs := [17]) (by kernel_rfl) (by simp) ?_
      refine AllReadyH.cons rfl (fun K hK => ?_) ?_
      · go_simp
        go_at_call 33
        refine (H3.out _ (Hh.out.keep hS.1 Hh.out.room)).mono ?_
        rintro e w4 ⟨rfl,hb2⟩
        go_wp2_with fail
        have hS_ := hS.next hb2
        clear hb2 hS
        refine hK.out _ _ hS_ (fun _ => ?_)
        have hS := hS_
        clear hS_
        clear hK K
        (try simp only [Act.put,aT,aZ,aS])
        refine wT (i := 18) (v := ?_) rfl (.inl ⟨by rfl,?_⟩) ?_
        rotate_left
        · (intro w' hSw; (try dsimp only at hSw); (have z0 : ¬ 9223372036854775807 < T0.size + 5 + T1.size + 1 + T2.size + 1 + T3.size := (by omega)); go_simp <;> with_reducible rfl)
        (try simp only [Act.put,aT,aZ,aS])
        refine wT (i := 19) (v := ?_) rfl (.inl ⟨by rfl,?_⟩) ?_
        rotate_left
        · (intro w' hSw; (try dsimp only at hSw); (have z0 : ¬ 9223372036854775807 < T0.size + 5 + T1.size + 1 + T2.size + 1 + T3.size + 1 := (by omega)); go_simp <;> with_reducible rfl)
        (try simp only [Act.put,aT,aZ,aS])
        refine wpAnyH_ready (rs := [23]) (by kernel_rfl) (by simp) ?_
        refine AllReadyH.cons rfl (fun K hK => ?_) ?_
        · go_simp
          go_at_call 33
          refine (H4.out _ (Hh.out.keep hS.1 Hh.out.room)).mono ?_
          rintro e w5 ⟨rfl,hb2⟩
          go_wp2_with fail
          have hS_ := hS.next hb2
          clear hb2 hS
          refine hK.out _ _ hS_ (fun _ => ?_)
          have hS := hS_
          clear hS_
          clear hK K
          (try simp only [Act.put,aT,aZ,aS])
          refine wT (i := 24) (v := ?_) rfl (.inl ⟨by rfl,?_⟩) ?_
          rotate_left
          · (intro w' hSw; (try dsimp only at hSw); (have z0 : ¬ 9223372036854775807 < T0.size + 5 + T1.size + 1 + T2.size + 1 + T3.size + 1 + T4.size := (by omega)); go_simp <;> with_reducible rfl)
          (try simp only [Act.put,aT,aZ,aS])
          refine wT (i := 25) (v := ?_) rfl (.inl ⟨by rfl,?_⟩) ?_
          rotate_left
          · (intro w' hSw; (try dsimp only at hSw); (have z0 : ¬ 9223372036854775807 < T0.size + 5 + T1.size + 1 + T2.size + 1 + T3.size + 1 + T4.size + 1 := (by omega)); go_simp <;> with_reducible rfl)
          (try simp only [Act.put,aT,aZ,aS])
          refine wpAnyH_ready (rs := [29]) (by kernel_rfl) (by simp) ?_
          refine AllReadyH.cons rfl (fun K hK => ?_) ?_
          · go_simp
            go_at_call 31
            refine (H5.out _ (Hh.out.keep hS.1 Hh.out.room)).mono ?_
            rintro e w6 ⟨rfl,hb2⟩
            go_wp2_with fail
            have hS_ := hS.next hb2
            clear hb2 hS
            refine hK.out _ _ hS_ (fun _ => ?_)
            have hS := hS_
            clear hS_
            clear hK K
            (try simp only [Act.put,aT,aZ,aS])
            refine wT (i := 30) (v := ?_) rfl (.inl ⟨by rfl,?_⟩) ?_
            rotate_left
            · (intro w' hSw; (try dsimp only at hSw); (have z0 : ¬ 9223372036854775807 < T0.size + 5 + T1.size + 1 + T2.size + 1 + T3.size + 1 + T4.size + 1 + T5.size := (by omega)); go_simp <;> with_reducible rfl)
            (try simp only [Act.put,aT,aZ,aS])
            refine wT (i := 31) (v := ?_) rfl (.inl ⟨by rfl,?_⟩) ?_
            rotate_left
            · (intro w' hSw; (try dsimp only at hSw); (have z0 : ¬ 9223372036854775807 < T0.size + 5 + T1.size + 1 + T2.size + 1 + T3.size + 1 + T4.size + 1 + T5.size + 1 := (by omega)); go_simp <;> with_reducible rfl)
            (try simp only [Act.put,aT,aZ,aS])
            refine wpAnyH_ready (rs := [32]) (by kernel_rfl) (by simp) ?_
            refine AllReadyH.cons rfl (fun K hK => ?_) ?_
            · go_simp
              refine hK.out _ _ hS (fun _ => ?_)
              clear hK K
              (try simp only [Act.put,aT,aZ,aS])
              refine wpAnyH_done (by kernel_rfl) ?_ _
              exact ⟨rfl,_,_,_,_,_,_,_,_,_,_,_,_,_,_,_,_,_,_,_,_,_,_,_,_,_,_,_,_,_,_,_,_,rfl,hS⟩
            exact AllReadyH.nil
          exact AllReadyH.nil
        exact AllReadyH.nil
      exact AllReadyH.nil
    exact AllReadyH.nil
  exact AllReadyH.nil
set_option maxHeartbeats 2000000 in
set_option maxRecDepth 100000 in
theorem rwr10 {w0 w : World} {g : Nat} {J : Jb} {s : Value} {Q : Exit → Act → World → Prop} {u0 u2 u3 u4 u6 u7 u8 u9 A0 A1 A2 A3 A4 A5 A6 A7 A8 A9 Aa Ab Ac Ad Ae Af Ag Ah Ai Aj Ak Al Am An Ao Ap Aq Ar As At Au Av Aw Ax Ay Az C0 C1 C2 C3 C4 C5 C6 C7 C8 C9 Ca Cb Cc Cd Ce Cf Cg Ch Ci Cj Ck Cl Cm Cn Co Cp Cq Cr Cs Ct Cu Cv Cw Cx Cy Cz D0 D1 D2 D3 D4 D5 D6 D7 D8 : Value} (hl : LibW w0) (hs : WS w0 w g (jobC J s)) {T0 T1 T2 : ByteArray} (H1 : Hid (ItOK J.wi T1)) (H2 : Hid (ItOK J.me T2)) (hz : T0.size ≤ 1000000 ∧ T1.size ≤ 100 ∧ T2.size ≤ 100) (hK : ∀ w' : World,WS w0 w' g (jobC J s) → ∀ (v79 v80 v81 v82 v83 v84 v85 v86 v87 v88 v89 v90 : Value),Q .normal ⟨#[u0,(.pointer (some ⟨g,0,none⟩)),(.string (((((T0 ++ ⟨#[112,97,115,115,32]⟩) ++ T1) ++ ⟨#[32]⟩) ++ T2) ++ ⟨#[10]⟩)),(.int .i64 0),u4,(.string T0),u6,u7,u8,u9,A0,A1,A2,A3,A4,A5,A6,A7,A8,A9,Aa,Ab,Ac,Ad,Ae,Af,Ag,Ah,Ai,Aj,Ak,Al,Am,An,Ao,Ap,Aq,Ar,As,At,Au,Av,Aw,Ax,Ay,Az,C0,C1,C2,C3,C4,C5,C6,C7,C8,C9,Ca,Cb,Cc,Cd,Ce,Cf,Cg,Ch,Ci,Cj,Ck,Cl,Cm,Cn,Co,Cp,Cq,Cr,Cs,Ct,Cu,Cv,Cw,v79,v80,v81,v82,v83,v84,v85,v86,v87,v88,v89,v90],[]⟩ w') : Code.wp Tryz.prog (Code.region 10 #[⟨some 79,.move (.tmp 5),9,"text.go:22",#[],none⟩,⟨some 80,.binOp .add 9 (.tmp 79) (.const (.string { data := #[112,97,115,115,32] })) 9,9,"text.go:22",#[⟨0,.data⟩],none⟩,⟨some 81,.fieldAddr 30 (.tmp 1) 3,0,"text.go:22",#[],none⟩,⟨some 82,.load 3 (.tmp 81),3,"text.go:22",#[⟨2,.data⟩],none⟩,⟨some 83,.call { callee := .value (.func 31),args := #[.tmp 82],argTypes := #[3] },9,"text.go:22",#[⟨3,.data⟩],none⟩,⟨some 84,.binOp .add 9 (.tmp 80) (.tmp 83) 9,9,"text.go:22",#[⟨1,.data⟩,⟨4,.data⟩],none⟩,⟨some 85,.binOp .add 9 (.tmp 84) (.const (.string { data := #[32] })) 9,9,"text.go:22",#[⟨5,.data⟩],none⟩,⟨some 86,.fieldAddr 30 (.tmp 1) 4,0,"text.go:22",#[],none⟩,⟨some 87,.load 3 (.tmp 86),3,"text.go:22",#[⟨7,.data⟩],none⟩,⟨some 88,.call { callee := .value (.func 31),args := #[.tmp 87],argTypes := #[3] },9,"text.go:22",#[⟨8,.data⟩,⟨4,.chain⟩],none⟩,⟨some 89,.binOp .add 9 (.tmp 85) (.tmp 88) 9,9,"text.go:22",#[⟨6,.data⟩,⟨9,.data⟩],none⟩,⟨some 90,.binOp .add 9 (.tmp 89) (.const (.string { data := #[10] })) 9,9,"text.go:22",#[⟨10,.data⟩],none⟩,⟨some 2,.assign (.tmp 90),9,"text.go:22",#[⟨11,.data⟩,⟨9,.chain⟩,⟨0,.phase⟩,⟨1,.phase⟩,⟨2,.phase⟩,⟨3,.phase⟩,⟨4,.phase⟩,⟨5,.phase⟩,⟨6,.phase⟩,⟨7,.phase⟩,⟨8,.phase⟩,⟨9,.phase⟩,⟨10,.phase⟩,⟨11,.phase⟩],none⟩,⟨some 3,.assign (.const (.int .i64 0)),38,"text.go:22",#[⟨12,.chain⟩,⟨0,.phase⟩,⟨1,.phase⟩,⟨2,.phase⟩,⟨3,.phase⟩,⟨4,.phase⟩,⟨5,.phase⟩,⟨6,.phase⟩,⟨7,.phase⟩,⟨8,.phase⟩,⟨9,.phase⟩,⟨10,.phase⟩,⟨11,.phase⟩,⟨12,.phase⟩],none⟩] true) Q ⟨#[u0,(.pointer (some ⟨g,0,none⟩)),u2,u3,u4,(.string T0),u6,u7,u8,u9,A0,A1,A2,A3,A4,A5,A6,A7,A8,A9,Aa,Ab,Ac,Ad,Ae,Af,Ag,Ah,Ai,Aj,Ak,Al,Am,An,Ao,Ap,Aq,Ar,As,At,Au,Av,Aw,Ax,Ay,Az,C0,C1,C2,C3,C4,C5,C6,C7,C8,C9,Ca,Cb,Cc,Cd,Ce,Cf,Cg,Ch,Ci,Cj,Ck,Cl,Cm,Cn,Co,Cp,Cq,Cr,Cs,Ct,Cu,Cv,Cw,Cx,Cy,Cz,D0,D1,D2,D3,D4,D5,D6,D7,D8],[]⟩ w := by
  have Hh := hidMk hl
  have HK := hidMk hK
  clear hl hK
  refine region_via (R := fun a_ e_ a' w' => e_ = .normal ∧ ∃ (v79 v80 v81 v82 v83 v84 v85 v86 v87 v88 v89 v90 : Value),a' = ((((((((((((((a_.put (some 79) v79).put (some 80) v80).put (some 81) v81).put (some 82) v82).put (some 83) v83).put (some 84) v84).put (some 85) v85).put (some 86) v86).put (some 87) v87).put (some 88) v88).put (some 89) v89).put (some 90) v90).put (some 2) (.string (((((T0 ++ ⟨#[112,97,115,115,32]⟩) ++ T1) ++ ⟨#[32]⟩) ++ T2) ++ ⟨#[10]⟩))).put (some 3) (.int .i64 0)) ∧ WS w0 w' g (jobC J s)) ?_ ?_
  rotate_left
  · rintro e_ a' w' ⟨rfl,v79,v80,v81,v82,v83,v84,v85,v86,v87,v88,v89,v90,rfl,h1⟩
    simp only [Act.put,aT,aZ,aS]
    exact HK.out _ h1 _ _ _ _ _ _ _ _ _ _ _ _ 
  have hS := hs.drew
  clear hs
  refine wp_region_held_drew (S := fun w' => WS w0 w' g (jobC J s)) (by kernel_rfl) hS (fun hS0 => ?_)
  clear hS0
  generalize w.drew = w1 at hS ⊢
  refine wT (i := 0) (v := ?_) rfl (.inl ⟨by rfl,?_⟩) ?_
  rotate_left
  · (intro w' hSw; (try dsimp only at hSw); go_simp <;> with_reducible rfl)
  (try simp only [Act.put,aT,aZ,aS])
  refine wT (i := 1) (v := ?_) rfl (.inl ⟨by rfl,?_⟩) ?_
  rotate_left
  · (intro w' hSw; (try dsimp only at hSw); (have z0 : ¬ 9223372036854775807 < T0.size + 5 := (by omega)); go_simp <;> with_reducible rfl)
  (try simp only [Act.put,aT,aZ,aS])
  refine wT (i := 2) (v := ?_) rfl (.inl ⟨by rfl,?_⟩) ?_
  rotate_left
  · (intro w' hSw; (try dsimp only at hSw); go_simp <;> with_reducible rfl)
  (try simp only [Act.put,aT,aZ,aS])
  refine wT (i := 3) (v := ?_) rfl (.inl ⟨by rfl,?_⟩) ?_
  rotate_left
  · (intro w' hSw; (try dsimp only at hSw); (have j0 := hSw.2.at_ 16 (.int .i64 J.wi) rfl); go_simp <;> with_reducible rfl)
  (try simp only [Act.put,aT,aZ,aS])
  refine wT (i := 7) (v := ?_) rfl (.inl ⟨by rfl,?_⟩) ?_
  rotate_left
  · (intro w' hSw; (try dsimp only at hSw); go_simp <;> with_reducible rfl)
  (try simp only [Act.put,aT,aZ,aS])
  refine wT (i := 8) (v := ?_) rfl (.inl ⟨by rfl,?_⟩) ?_
  rotate_left
  · (intro w' hSw; (try dsimp only at hSw); (have j0 := hSw.2.at_ 17 (.int .i64 J.me) rfl); go_simp <;> with_reducible rfl)
  (try simp only [Act.put,aT,aZ,aS])
  refine wpAnyH_ready (rs := [4]) (by kernel_rfl) (by simp) ?_
  refine AllReadyH.cons rfl (fun K hK => ?_) ?_
  · go_simp
    go_at_call 31
    refine (H1.out _ (Hh.out.keep hS.1 Hh.out.room)).mono ?_
    rintro e w2 ⟨rfl,hb2⟩
    go_wp2_with fail
    have hS_ := hS.next hb2
    clear hb2 hS
    refine hK.out _ _ hS_ (fun _ => ?_)
    have hS := hS_
    clear hS_
    clear hK K
    (try simp only [Act.put,aT,aZ,aS])
    refine wT (i := 5) (v := ?_) rfl (.inl ⟨by rfl,?_⟩) ?_
    rotate_left
    · (intro w' hSw; (try dsimp only at hSw); (have z0 : ¬ 9223372036854775807 < T0.size + 5 + T1.size := (by omega)); go_simp <;> with_reducible rfl)
    (try simp only [Act.put,aT,aZ,aS])
    refine wT (i := 6) (v := ?_) rfl (.inl ⟨by rfl,?_⟩) ?_
    rotate_left
    · (intro w' hSw; (try dsimp only at hSw); (have z0 : ¬ 9223372036854775807 < T0.size + 5 + T1.size + 1 := (by omega)); go_simp <;> with_reducible rfl)
    (try simp only [Act.put,aT,aZ,aS])
    refine wpAnyH_ready (rs := [9]) (by kernel_rfl) (by simp) ?_
    refine AllReadyH.cons rfl (fun K hK => ?_) ?_
    · go_simp
      go_at_call 31
      refine (H2.out _ (Hh.out.keep hS.1 Hh.out.room)).mono ?_
      rintro e w3 ⟨rfl,hb2⟩
      go_wp2_with fail
      have hS_ := hS.next hb2
      clear hb2 hS
      refine hK.out _ _ hS_ (fun _ => ?_)
      have hS := hS_
      clear hS_
      clear hK K
      (try simp only [Act.put,aT,aZ,aS])
      refine wT (i := 10) (v := ?_) rfl (.inl ⟨by rfl,?_⟩) ?_
      rotate_left
      · (intro w' hSw; (try dsimp only at hSw); (have z0 : ¬ 9223372036854775807 < T0.size + 5 + T1.size + 1 + T2.size := (by omega)); go_simp <;> with_reducible rfl)
      (try simp only [Act.put,aT,aZ,aS])
      refine wT (i := 11) (v := ?_) rfl (.inl ⟨by rfl,?_⟩) ?_
      rotate_left
      · (intro w' hSw; (try dsimp only at hSw); (have z0 : ¬ 9223372036854775807 < T0.size + 5 + T1.size + 1 + T2.size + 1 := (by omega)); go_simp <;> with_reducible rfl)
      (try simp only [Act.put,aT,aZ,aS])
      refine wpAnyH_ready (rs := [12]) (by kernel_rfl) (by simp) ?_
      refine AllReadyH.cons rfl (fun K hK => ?_) ?_
      · go_simp
        refine hK.out _ _ hS (fun _ => ?_)
        clear hK K
        (try simp only [Act.put,aT,aZ,aS])
        refine wpAnyH_ready (rs := [13]) (by kernel_rfl) (by simp) ?_
        refine AllReadyH.cons rfl (fun K hK => ?_) ?_
        · go_simp
          refine hK.out _ _ hS (fun _ => ?_)
          clear hK K
          (try simp only [Act.put,aT,aZ,aS])
          refine wpAnyH_done (by kernel_rfl) ?_ _
          exact ⟨rfl,_,_,_,_,_,_,_,_,_,_,_,_,rfl,hS⟩
        exact AllReadyH.nil
      exact AllReadyH.nil
    exact AllReadyH.nil
  exact AllReadyH.nil
end Go.Proofs.YtljefjngmembkaaGreatDoor
