/- Part 20 of the proof: TxS, TxT. -/
import Derived.Test.YtljefjngmembkaaGreatDoorT19
namespace Go.Proofs.YtljefjngmembkaaGreatDoor
set_option linter.all false
open Go.RowKit Go.Lib
set_option maxHeartbeats 2000000 in
set_option maxRecDepth 1000000 in
theorem par60 {rb pb m : Nat} {w : World} {Q : Exit → Act → World → Prop} {u0 u1 u2 u3 u5 u6 u7 u9 A0 A1 A2 A3 A4 A5 A6 A7 A8 A9 Aa Ab Ac Ad Ae Af Ag Ah Ai Aj Ak Al Am An Ao Ap Aq Ar As At Au Av Aw Ax Ay Az C0 C1 C2 C3 C4 C5 C6 C7 C8 C9 Ca Cb Cc Cd Ce Cf Cg Ch : Value} (hb : Bk w rb 116 rulesC.toArray) (hK : ∀ (w' : World),Below w.heap.size w w' → ∀ (v21 v22 v23 v24 v25 v26 v27 v28 v29 v30 v31 v32 v33 : Value),Q .normal ⟨#[u0,u1,u2,u3,(.slice (some ⟨rb,0,none⟩) 4 4),u5,u6,u7,(.slice (some ⟨pb,0,none⟩) (m + 1) (m + 1)),u9,A0,A1,A2,A3,A4,A5,A6,A7,A8,A9,Aa,v21,v22,v23,v24,v25,v26,v27,v28,v29,v30,v31,v32,v33,(.bool false),Ap,Aq,Ar,As,At,Au,Av,Aw,Ax,Ay,Az,C0,C1,C2,C3,C4,C5,C6,C7,C8,C9,Ca,Cb,Cc,Cd,Ce,Cf,Cg,Ch],[]⟩ w') : Code.wp Tryz.prog (Code.region 6 #[⟨some 21,.move (.tmp 4),109,"text.go:81",#[],none⟩,⟨some 22,.indexAddr 109 (.tmp 21) (.const (.int .i64 0)),0,"text.go:81",#[⟨0,.data⟩],none⟩,⟨some 23,.fieldAddr 116 (.tmp 22) 1,0,"text.go:81",#[⟨1,.data⟩],none⟩,⟨some 24,.load 4 (.tmp 23),4,"text.go:81",#[⟨2,.data⟩],none⟩,⟨some 25,.move (.tmp 24),4,"text.go:81",#[⟨3,.data⟩],none⟩,⟨some 26,.move (.tmp 8),37,"text.go:81",#[⟨4,.guard⟩],some (4,true)⟩,⟨some 27,.indexAddr 37 (.tmp 26) (.const (.int .i64 0)),0,"text.go:81",#[⟨5,.data⟩,⟨4,.guard⟩],some (4,true)⟩,⟨some 28,.load 9 (.tmp 27),9,"text.go:81",#[⟨6,.data⟩,⟨4,.guard⟩],some (4,true)⟩,⟨some 29,.move (.tmp 4),109,"text.go:81",#[⟨4,.guard⟩],some (4,true)⟩,⟨some 30,.indexAddr 109 (.tmp 29) (.const (.int .i64 0)),0,"text.go:81",#[⟨8,.data⟩,⟨4,.guard⟩],some (4,true)⟩,⟨some 31,.fieldAddr 116 (.tmp 30) 0,0,"text.go:81",#[⟨9,.data⟩,⟨4,.guard⟩],some (4,true)⟩,⟨some 32,.load 9 (.tmp 31),9,"text.go:81",#[⟨10,.data⟩,⟨4,.guard⟩],some (4,true)⟩,⟨some 33,.binOp .neq 9 (.tmp 28) (.tmp 32) 9,4,"text.go:81",#[⟨7,.data⟩,⟨11,.data⟩,⟨4,.guard⟩],some (4,true)⟩,⟨some 34,.pick (.tmp 25) (.tmp 33) (.const (.bool false)),4,"text.go:81",#[⟨4,.data⟩,⟨12,.data⟩],none⟩] true) Q ⟨#[u0,u1,u2,u3,(.slice (some ⟨rb,0,none⟩) 4 4),u5,u6,u7,(.slice (some ⟨pb,0,none⟩) (m + 1) (m + 1)),u9,A0,A1,A2,A3,A4,A5,A6,A7,A8,A9,Aa,Ab,Ac,Ad,Ae,Af,Ag,Ah,Ai,Aj,Ak,Al,Am,An,Ao,Ap,Aq,Ar,As,At,Au,Av,Aw,Ax,Ay,Az,C0,C1,C2,C3,C4,C5,C6,C7,C8,C9,Ca,Cb,Cc,Cd,Ce,Cf,Cg,Ch],[]⟩ w := by
  refine region_via (R := fun a_ e_ a' w' => e_ = .normal ∧ ∃ (v21 v22 v23 v24 v25 v26 v27 v28 v29 v30 v31 v32 v33 : Value),a' = ((((((((((((((a_.put (some 21) v21).put (some 22) v22).put (some 23) v23).put (some 24) v24).put (some 25) v25).put (some 26) v26).put (some 27) v27).put (some 28) v28).put (some 29) v29).put (some 30) v30).put (some 31) v31).put (some 32) v32).put (some 33) v33).put (some 34) (.bool false)) ∧ Below w.heap.size w w') ?_ ?_
  rotate_left
  · rintro e_ a' w' ⟨rfl,v21,v22,v23,v24,v25,v26,v27,v28,v29,v30,v31,v32,v33,rfl,h1⟩
    simp only [Act.put,aT,aZ,aS]
    exact hK _ h1 _ _ _ _ _ _ _ _ _ _ _ _ _ 
  have hS : (fun w' => Below w.heap.size w w' ∧ Bk w' rb 116 rulesC.toArray) w.drew := ⟨(Below.refl _ _).drew,hb⟩
  refine wp_region_held_drew (S := (fun w' => Below w.heap.size w w' ∧ Bk w' rb 116 rulesC.toArray)) (by kernel_rfl) hS (fun hS0 => ?_)
  clear hS0
  generalize w.drew = wd at hS ⊢
  refine wT (i := 0) (oi := ⟨some 21,.move (.tmp 4),109,"text.go:81",#[],none⟩) (v := ?_) rfl (.inl ⟨by rfl,?_⟩) ?_
  rotate_left
  · (intro w' hSw; (try dsimp only at hSw); go_simp <;> with_reducible rfl)
  (try simp only [Act.put,aT,aZ,aS])
  refine wT (i := 1) (oi := ⟨some 22,.indexAddr 109 (.tmp 21) (.const (.int .i64 0)),0,"text.go:81",#[⟨0,.data⟩],none⟩) (v := ?_) rfl (.inl ⟨by rfl,?_⟩) ?_
  rotate_left
  · (intro w' hSw; (try dsimp only at hSw); go_simp <;> with_reducible rfl)
  (try simp only [Act.put,aT,aZ,aS])
  refine wT (i := 2) (oi := ⟨some 23,.fieldAddr 116 (.tmp 22) 1,0,"text.go:81",#[⟨1,.data⟩],none⟩) (v := ?_) rfl (.inl ⟨by rfl,?_⟩) ?_
  rotate_left
  · (intro w' hSw; (try dsimp only at hSw); go_simp <;> with_reducible rfl)
  (try simp only [Act.put,aT,aZ,aS])
  refine wT (i := 3) (oi := ⟨some 24,.load 4 (.tmp 23),4,"text.go:81",#[⟨2,.data⟩],none⟩) (v := ?_) rfl (.inl ⟨by rfl,?_⟩) ?_
  rotate_left
  · (intro w' hSw; (try dsimp only at hSw); have q0 := hSw.2.at_ 1 (.bool false) rfl; go_simp <;> with_reducible rfl)
  (try simp only [Act.put,aT,aZ,aS])
  refine wT (i := 4) (oi := ⟨some 25,.move (.tmp 24),4,"text.go:81",#[⟨3,.data⟩],none⟩) (v := ?_) rfl (.inl ⟨by rfl,?_⟩) ?_
  rotate_left
  · (intro w' hSw; (try dsimp only at hSw); go_simp <;> with_reducible rfl)
  (try simp only [Act.put,aT,aZ,aS])
  refine wT (i := 5) (oi := ⟨some 26,.move (.tmp 8),37,"text.go:81",#[⟨4,.guard⟩],some (4,true)⟩) (v := undef) rfl (.inr ⟨by rfl,rfl⟩) ?_
  (try simp only [Act.put,aT,aZ,aS])
  refine wT (i := 6) (oi := ⟨some 27,.indexAddr 37 (.tmp 26) (.const (.int .i64 0)),0,"text.go:81",#[⟨5,.data⟩,⟨4,.guard⟩],some (4,true)⟩) (v := undef) rfl (.inr ⟨by rfl,rfl⟩) ?_
  (try simp only [Act.put,aT,aZ,aS])
  refine wT (i := 7) (oi := ⟨some 28,.load 9 (.tmp 27),9,"text.go:81",#[⟨6,.data⟩,⟨4,.guard⟩],some (4,true)⟩) (v := undef) rfl (.inr ⟨by rfl,rfl⟩) ?_
  (try simp only [Act.put,aT,aZ,aS])
  refine wT (i := 8) (oi := ⟨some 29,.move (.tmp 4),109,"text.go:81",#[⟨4,.guard⟩],some (4,true)⟩) (v := undef) rfl (.inr ⟨by rfl,rfl⟩) ?_
  (try simp only [Act.put,aT,aZ,aS])
  refine wT (i := 9) (oi := ⟨some 30,.indexAddr 109 (.tmp 29) (.const (.int .i64 0)),0,"text.go:81",#[⟨8,.data⟩,⟨4,.guard⟩],some (4,true)⟩) (v := undef) rfl (.inr ⟨by rfl,rfl⟩) ?_
  (try simp only [Act.put,aT,aZ,aS])
  refine wT (i := 10) (oi := ⟨some 31,.fieldAddr 116 (.tmp 30) 0,0,"text.go:81",#[⟨9,.data⟩,⟨4,.guard⟩],some (4,true)⟩) (v := undef) rfl (.inr ⟨by rfl,rfl⟩) ?_
  (try simp only [Act.put,aT,aZ,aS])
  refine wT (i := 11) (oi := ⟨some 32,.load 9 (.tmp 31),9,"text.go:81",#[⟨10,.data⟩,⟨4,.guard⟩],some (4,true)⟩) (v := undef) rfl (.inr ⟨by rfl,rfl⟩) ?_
  (try simp only [Act.put,aT,aZ,aS])
  refine wT (i := 12) (oi := ⟨some 33,.binOp .neq 9 (.tmp 28) (.tmp 32) 9,4,"text.go:81",#[⟨7,.data⟩,⟨11,.data⟩,⟨4,.guard⟩],some (4,true)⟩) (v := undef) rfl (.inr ⟨by rfl,rfl⟩) ?_
  (try simp only [Act.put,aT,aZ,aS])
  refine wT (i := 13) (oi := ⟨some 34,.pick (.tmp 25) (.tmp 33) (.const (.bool false)),4,"text.go:81",#[⟨4,.data⟩,⟨12,.data⟩],none⟩) (v := ?_) rfl (.inl ⟨by rfl,?_⟩) ?_
  rotate_left
  · (intro w' hSw; (try dsimp only at hSw); go_simp <;> with_reducible rfl)
  (try simp only [Act.put,aT,aZ,aS])
  refine wpAnyH_done (by kernel_rfl) ?_ _
  exact ⟨rfl,_,_,_,_,_,_,_,_,_,_,_,_,_,rfl,hS.1⟩
set_option maxHeartbeats 2000000 in
set_option maxRecDepth 1000000 in
theorem par61 {rb pb m : Nat} {w : World} {Q : Exit → Act → World → Prop} {u0 u1 u2 u3 u5 u6 u7 u9 A0 A1 A2 A3 A4 A5 A6 A7 A8 A9 Aa Ab Ac Ad Ae Af Ag Ah Ai Aj Ak Al Am An Ao Ap Aq Ar As At Au Av Aw Ax Ay Az C0 C1 C2 C3 C4 C5 C6 C7 C8 C9 Ca Cb Cc Cd Ce Cf Cg Ch : Value} (hb : Bk w rb 116 rulesC.toArray) (hK : ∀ (w' : World),Below w.heap.size w w' → ∀ (v21 v22 v23 v24 v25 v26 v27 v28 v29 v30 v31 v32 v33 : Value),Q .normal ⟨#[u0,u1,u2,u3,(.slice (some ⟨rb,5,none⟩) 3 3),u5,u6,u7,(.slice (some ⟨pb,0,none⟩) (m + 1) (m + 1)),u9,A0,A1,A2,A3,A4,A5,A6,A7,A8,A9,Aa,v21,v22,v23,v24,v25,v26,v27,v28,v29,v30,v31,v32,v33,(.bool false),Ap,Aq,Ar,As,At,Au,Av,Aw,Ax,Ay,Az,C0,C1,C2,C3,C4,C5,C6,C7,C8,C9,Ca,Cb,Cc,Cd,Ce,Cf,Cg,Ch],[]⟩ w') : Code.wp Tryz.prog (Code.region 6 #[⟨some 21,.move (.tmp 4),109,"text.go:81",#[],none⟩,⟨some 22,.indexAddr 109 (.tmp 21) (.const (.int .i64 0)),0,"text.go:81",#[⟨0,.data⟩],none⟩,⟨some 23,.fieldAddr 116 (.tmp 22) 1,0,"text.go:81",#[⟨1,.data⟩],none⟩,⟨some 24,.load 4 (.tmp 23),4,"text.go:81",#[⟨2,.data⟩],none⟩,⟨some 25,.move (.tmp 24),4,"text.go:81",#[⟨3,.data⟩],none⟩,⟨some 26,.move (.tmp 8),37,"text.go:81",#[⟨4,.guard⟩],some (4,true)⟩,⟨some 27,.indexAddr 37 (.tmp 26) (.const (.int .i64 0)),0,"text.go:81",#[⟨5,.data⟩,⟨4,.guard⟩],some (4,true)⟩,⟨some 28,.load 9 (.tmp 27),9,"text.go:81",#[⟨6,.data⟩,⟨4,.guard⟩],some (4,true)⟩,⟨some 29,.move (.tmp 4),109,"text.go:81",#[⟨4,.guard⟩],some (4,true)⟩,⟨some 30,.indexAddr 109 (.tmp 29) (.const (.int .i64 0)),0,"text.go:81",#[⟨8,.data⟩,⟨4,.guard⟩],some (4,true)⟩,⟨some 31,.fieldAddr 116 (.tmp 30) 0,0,"text.go:81",#[⟨9,.data⟩,⟨4,.guard⟩],some (4,true)⟩,⟨some 32,.load 9 (.tmp 31),9,"text.go:81",#[⟨10,.data⟩,⟨4,.guard⟩],some (4,true)⟩,⟨some 33,.binOp .neq 9 (.tmp 28) (.tmp 32) 9,4,"text.go:81",#[⟨7,.data⟩,⟨11,.data⟩,⟨4,.guard⟩],some (4,true)⟩,⟨some 34,.pick (.tmp 25) (.tmp 33) (.const (.bool false)),4,"text.go:81",#[⟨4,.data⟩,⟨12,.data⟩],none⟩] true) Q ⟨#[u0,u1,u2,u3,(.slice (some ⟨rb,5,none⟩) 3 3),u5,u6,u7,(.slice (some ⟨pb,0,none⟩) (m + 1) (m + 1)),u9,A0,A1,A2,A3,A4,A5,A6,A7,A8,A9,Aa,Ab,Ac,Ad,Ae,Af,Ag,Ah,Ai,Aj,Ak,Al,Am,An,Ao,Ap,Aq,Ar,As,At,Au,Av,Aw,Ax,Ay,Az,C0,C1,C2,C3,C4,C5,C6,C7,C8,C9,Ca,Cb,Cc,Cd,Ce,Cf,Cg,Ch],[]⟩ w := by
  refine region_via (R := fun a_ e_ a' w' => e_ = .normal ∧ ∃ (v21 v22 v23 v24 v25 v26 v27 v28 v29 v30 v31 v32 v33 : Value),a' = ((((((((((((((a_.put (some 21) v21).put (some 22) v22).put (some 23) v23).put (some 24) v24).put (some 25) v25).put (some 26) v26).put (some 27) v27).put (some 28) v28).put (some 29) v29).put (some 30) v30).put (some 31) v31).put (some 32) v32).put (some 33) v33).put (some 34) (.bool false)) ∧ Below w.heap.size w w') ?_ ?_
  rotate_left
  · rintro e_ a' w' ⟨rfl,v21,v22,v23,v24,v25,v26,v27,v28,v29,v30,v31,v32,v33,rfl,h1⟩
    simp only [Act.put,aT,aZ,aS]
    exact hK _ h1 _ _ _ _ _ _ _ _ _ _ _ _ _ 
  have hS : (fun w' => Below w.heap.size w w' ∧ Bk w' rb 116 rulesC.toArray) w.drew := ⟨(Below.refl _ _).drew,hb⟩
  refine wp_region_held_drew (S := (fun w' => Below w.heap.size w w' ∧ Bk w' rb 116 rulesC.toArray)) (by kernel_rfl) hS (fun hS0 => ?_)
  clear hS0
  generalize w.drew = wd at hS ⊢
  refine wT (i := 0) (oi := ⟨some 21,.move (.tmp 4),109,"text.go:81",#[],none⟩) (v := ?_) rfl (.inl ⟨by rfl,?_⟩) ?_
  rotate_left
  · (intro w' hSw; (try dsimp only at hSw); go_simp <;> with_reducible rfl)
  (try simp only [Act.put,aT,aZ,aS])
  refine wT (i := 1) (oi := ⟨some 22,.indexAddr 109 (.tmp 21) (.const (.int .i64 0)),0,"text.go:81",#[⟨0,.data⟩],none⟩) (v := ?_) rfl (.inl ⟨by rfl,?_⟩) ?_
  rotate_left
  · (intro w' hSw; (try dsimp only at hSw); go_simp <;> with_reducible rfl)
  (try simp only [Act.put,aT,aZ,aS])
  refine wT (i := 2) (oi := ⟨some 23,.fieldAddr 116 (.tmp 22) 1,0,"text.go:81",#[⟨1,.data⟩],none⟩) (v := ?_) rfl (.inl ⟨by rfl,?_⟩) ?_
  rotate_left
  · (intro w' hSw; (try dsimp only at hSw); go_simp <;> with_reducible rfl)
  (try simp only [Act.put,aT,aZ,aS])
  refine wT (i := 3) (oi := ⟨some 24,.load 4 (.tmp 23),4,"text.go:81",#[⟨2,.data⟩],none⟩) (v := ?_) rfl (.inl ⟨by rfl,?_⟩) ?_
  rotate_left
  · (intro w' hSw; (try dsimp only at hSw); have q0 := hSw.2.at_ 6 (.bool false) rfl; go_simp <;> with_reducible rfl)
  (try simp only [Act.put,aT,aZ,aS])
  refine wT (i := 4) (oi := ⟨some 25,.move (.tmp 24),4,"text.go:81",#[⟨3,.data⟩],none⟩) (v := ?_) rfl (.inl ⟨by rfl,?_⟩) ?_
  rotate_left
  · (intro w' hSw; (try dsimp only at hSw); go_simp <;> with_reducible rfl)
  (try simp only [Act.put,aT,aZ,aS])
  refine wT (i := 5) (oi := ⟨some 26,.move (.tmp 8),37,"text.go:81",#[⟨4,.guard⟩],some (4,true)⟩) (v := undef) rfl (.inr ⟨by rfl,rfl⟩) ?_
  (try simp only [Act.put,aT,aZ,aS])
  refine wT (i := 6) (oi := ⟨some 27,.indexAddr 37 (.tmp 26) (.const (.int .i64 0)),0,"text.go:81",#[⟨5,.data⟩,⟨4,.guard⟩],some (4,true)⟩) (v := undef) rfl (.inr ⟨by rfl,rfl⟩) ?_
  (try simp only [Act.put,aT,aZ,aS])
  refine wT (i := 7) (oi := ⟨some 28,.load 9 (.tmp 27),9,"text.go:81",#[⟨6,.data⟩,⟨4,.guard⟩],some (4,true)⟩) (v := undef) rfl (.inr ⟨by rfl,rfl⟩) ?_
  (try simp only [Act.put,aT,aZ,aS])
  refine wT (i := 8) (oi := ⟨some 29,.move (.tmp 4),109,"text.go:81",#[⟨4,.guard⟩],some (4,true)⟩) (v := undef) rfl (.inr ⟨by rfl,rfl⟩) ?_
  (try simp only [Act.put,aT,aZ,aS])
  refine wT (i := 9) (oi := ⟨some 30,.indexAddr 109 (.tmp 29) (.const (.int .i64 0)),0,"text.go:81",#[⟨8,.data⟩,⟨4,.guard⟩],some (4,true)⟩) (v := undef) rfl (.inr ⟨by rfl,rfl⟩) ?_
  (try simp only [Act.put,aT,aZ,aS])
  refine wT (i := 10) (oi := ⟨some 31,.fieldAddr 116 (.tmp 30) 0,0,"text.go:81",#[⟨9,.data⟩,⟨4,.guard⟩],some (4,true)⟩) (v := undef) rfl (.inr ⟨by rfl,rfl⟩) ?_
  (try simp only [Act.put,aT,aZ,aS])
  refine wT (i := 11) (oi := ⟨some 32,.load 9 (.tmp 31),9,"text.go:81",#[⟨10,.data⟩,⟨4,.guard⟩],some (4,true)⟩) (v := undef) rfl (.inr ⟨by rfl,rfl⟩) ?_
  (try simp only [Act.put,aT,aZ,aS])
  refine wT (i := 12) (oi := ⟨some 33,.binOp .neq 9 (.tmp 28) (.tmp 32) 9,4,"text.go:81",#[⟨7,.data⟩,⟨11,.data⟩,⟨4,.guard⟩],some (4,true)⟩) (v := undef) rfl (.inr ⟨by rfl,rfl⟩) ?_
  (try simp only [Act.put,aT,aZ,aS])
  refine wT (i := 13) (oi := ⟨some 34,.pick (.tmp 25) (.tmp 33) (.const (.bool false)),4,"text.go:81",#[⟨4,.data⟩,⟨12,.data⟩],none⟩) (v := ?_) rfl (.inl ⟨by rfl,?_⟩) ?_
  rotate_left
  · (intro w' hSw; (try dsimp only at hSw); go_simp <;> with_reducible rfl)
  (try simp only [Act.put,aT,aZ,aS])
  refine wpAnyH_done (by kernel_rfl) ?_ _
  exact ⟨rfl,_,_,_,_,_,_,_,_,_,_,_,_,_,rfl,hS.1⟩
set_option maxHeartbeats 2000000 in
set_option maxRecDepth 1000000 in
theorem par62 {rb pb m : Nat} {w : World} {Q : Exit → Act → World → Prop} {u0 u1 u2 u3 u5 u6 u7 u9 A0 A1 A2 A3 A4 A5 A6 A7 A8 A9 Aa Ab Ac Ad Ae Af Ag Ah Ai Aj Ak Al Am An Ao Ap Aq Ar As At Au Av Aw Ax Ay Az C0 C1 C2 C3 C4 C5 C6 C7 C8 C9 Ca Cb Cc Cd Ce Cf Cg Ch : Value} (hb : Bk w rb 116 rulesC.toArray) {x0 : ByteArray} (hp : w.cell? ⟨pb,0,none⟩ = some (.string x0)) {bq : Bool} (hq : (!(x0.toList == (bt shiftW).toList)) = bq) (hK : ∀ (w' : World),Below w.heap.size w w' → ∀ (v21 v22 v23 v24 v25 v26 v27 v28 v29 v30 v31 v32 v33 : Value),Q .normal ⟨#[u0,u1,u2,u3,(.slice (some ⟨rb,10,none⟩) 2 2),u5,u6,u7,(.slice (some ⟨pb,0,none⟩) (m + 1) (m + 1)),u9,A0,A1,A2,A3,A4,A5,A6,A7,A8,A9,Aa,v21,v22,v23,v24,v25,v26,v27,v28,v29,v30,v31,v32,v33,(.bool bq),Ap,Aq,Ar,As,At,Au,Av,Aw,Ax,Ay,Az,C0,C1,C2,C3,C4,C5,C6,C7,C8,C9,Ca,Cb,Cc,Cd,Ce,Cf,Cg,Ch],[]⟩ w') : Code.wp Tryz.prog (Code.region 6 #[⟨some 21,.move (.tmp 4),109,"text.go:81",#[],none⟩,⟨some 22,.indexAddr 109 (.tmp 21) (.const (.int .i64 0)),0,"text.go:81",#[⟨0,.data⟩],none⟩,⟨some 23,.fieldAddr 116 (.tmp 22) 1,0,"text.go:81",#[⟨1,.data⟩],none⟩,⟨some 24,.load 4 (.tmp 23),4,"text.go:81",#[⟨2,.data⟩],none⟩,⟨some 25,.move (.tmp 24),4,"text.go:81",#[⟨3,.data⟩],none⟩,⟨some 26,.move (.tmp 8),37,"text.go:81",#[⟨4,.guard⟩],some (4,true)⟩,⟨some 27,.indexAddr 37 (.tmp 26) (.const (.int .i64 0)),0,"text.go:81",#[⟨5,.data⟩,⟨4,.guard⟩],some (4,true)⟩,⟨some 28,.load 9 (.tmp 27),9,"text.go:81",#[⟨6,.data⟩,⟨4,.guard⟩],some (4,true)⟩,⟨some 29,.move (.tmp 4),109,"text.go:81",#[⟨4,.guard⟩],some (4,true)⟩,⟨some 30,.indexAddr 109 (.tmp 29) (.const (.int .i64 0)),0,"text.go:81",#[⟨8,.data⟩,⟨4,.guard⟩],some (4,true)⟩,⟨some 31,.fieldAddr 116 (.tmp 30) 0,0,"text.go:81",#[⟨9,.data⟩,⟨4,.guard⟩],some (4,true)⟩,⟨some 32,.load 9 (.tmp 31),9,"text.go:81",#[⟨10,.data⟩,⟨4,.guard⟩],some (4,true)⟩,⟨some 33,.binOp .neq 9 (.tmp 28) (.tmp 32) 9,4,"text.go:81",#[⟨7,.data⟩,⟨11,.data⟩,⟨4,.guard⟩],some (4,true)⟩,⟨some 34,.pick (.tmp 25) (.tmp 33) (.const (.bool false)),4,"text.go:81",#[⟨4,.data⟩,⟨12,.data⟩],none⟩] true) Q ⟨#[u0,u1,u2,u3,(.slice (some ⟨rb,10,none⟩) 2 2),u5,u6,u7,(.slice (some ⟨pb,0,none⟩) (m + 1) (m + 1)),u9,A0,A1,A2,A3,A4,A5,A6,A7,A8,A9,Aa,Ab,Ac,Ad,Ae,Af,Ag,Ah,Ai,Aj,Ak,Al,Am,An,Ao,Ap,Aq,Ar,As,At,Au,Av,Aw,Ax,Ay,Az,C0,C1,C2,C3,C4,C5,C6,C7,C8,C9,Ca,Cb,Cc,Cd,Ce,Cf,Cg,Ch],[]⟩ w := by
  refine region_via (R := fun a_ e_ a' w' => e_ = .normal ∧ ∃ (v21 v22 v23 v24 v25 v26 v27 v28 v29 v30 v31 v32 v33 : Value),a' = ((((((((((((((a_.put (some 21) v21).put (some 22) v22).put (some 23) v23).put (some 24) v24).put (some 25) v25).put (some 26) v26).put (some 27) v27).put (some 28) v28).put (some 29) v29).put (some 30) v30).put (some 31) v31).put (some 32) v32).put (some 33) v33).put (some 34) (.bool bq)) ∧ Below w.heap.size w w') ?_ ?_
  rotate_left
  · rintro e_ a' w' ⟨rfl,v21,v22,v23,v24,v25,v26,v27,v28,v29,v30,v31,v32,v33,rfl,h1⟩
    simp only [Act.put,aT,aZ,aS]
    exact hK _ h1 _ _ _ _ _ _ _ _ _ _ _ _ _ 
  have hS : (fun w' => Below w.heap.size w w' ∧ Bk w' rb 116 rulesC.toArray ∧ w'.cell? ⟨pb,0,none⟩ = some (.string x0)) w.drew := ⟨(Below.refl _ _).drew,hb,hp⟩
  refine wp_region_held_drew (S := (fun w' => Below w.heap.size w w' ∧ Bk w' rb 116 rulesC.toArray ∧ w'.cell? ⟨pb,0,none⟩ = some (.string x0))) (by kernel_rfl) hS (fun hS0 => ?_)
  clear hS0
  generalize w.drew = wd at hS ⊢
  refine wT (i := 0) (oi := ⟨some 21,.move (.tmp 4),109,"text.go:81",#[],none⟩) (v := ?_) rfl (.inl ⟨by rfl,?_⟩) ?_
  rotate_left
  · (intro w' hSw; (try dsimp only at hSw); go_simp <;> with_reducible rfl)
  (try simp only [Act.put,aT,aZ,aS])
  refine wT (i := 1) (oi := ⟨some 22,.indexAddr 109 (.tmp 21) (.const (.int .i64 0)),0,"text.go:81",#[⟨0,.data⟩],none⟩) (v := ?_) rfl (.inl ⟨by rfl,?_⟩) ?_
  rotate_left
  · (intro w' hSw; (try dsimp only at hSw); go_simp <;> with_reducible rfl)
  (try simp only [Act.put,aT,aZ,aS])
  refine wT (i := 2) (oi := ⟨some 23,.fieldAddr 116 (.tmp 22) 1,0,"text.go:81",#[⟨1,.data⟩],none⟩) (v := ?_) rfl (.inl ⟨by rfl,?_⟩) ?_
  rotate_left
  · (intro w' hSw; (try dsimp only at hSw); go_simp <;> with_reducible rfl)
  (try simp only [Act.put,aT,aZ,aS])
  refine wT (i := 3) (oi := ⟨some 24,.load 4 (.tmp 23),4,"text.go:81",#[⟨2,.data⟩],none⟩) (v := ?_) rfl (.inl ⟨by rfl,?_⟩) ?_
  rotate_left
  · (intro w' hSw; (try dsimp only at hSw); have q0 := hSw.2.1.at_ 11 (.bool true) rfl; go_simp <;> with_reducible rfl)
  (try simp only [Act.put,aT,aZ,aS])
  refine wT (i := 4) (oi := ⟨some 25,.move (.tmp 24),4,"text.go:81",#[⟨3,.data⟩],none⟩) (v := ?_) rfl (.inl ⟨by rfl,?_⟩) ?_
  rotate_left
  · (intro w' hSw; (try dsimp only at hSw); go_simp <;> with_reducible rfl)
  (try simp only [Act.put,aT,aZ,aS])
  refine wT (i := 5) (oi := ⟨some 26,.move (.tmp 8),37,"text.go:81",#[⟨4,.guard⟩],some (4,true)⟩) (v := ?_) rfl (.inl ⟨by rfl,?_⟩) ?_
  rotate_left
  · (intro w' hSw; (try dsimp only at hSw); go_simp <;> with_reducible rfl)
  (try simp only [Act.put,aT,aZ,aS])
  refine wT (i := 6) (oi := ⟨some 27,.indexAddr 37 (.tmp 26) (.const (.int .i64 0)),0,"text.go:81",#[⟨5,.data⟩,⟨4,.guard⟩],some (4,true)⟩) (v := ?_) rfl (.inl ⟨by rfl,?_⟩) ?_
  rotate_left
  · (intro w' hSw; (try dsimp only at hSw); have q0 := Nat.succ_pos m; go_simp <;> with_reducible rfl)
  (try simp only [Act.put,aT,aZ,aS])
  refine wT (i := 7) (oi := ⟨some 28,.load 9 (.tmp 27),9,"text.go:81",#[⟨6,.data⟩,⟨4,.guard⟩],some (4,true)⟩) (v := ?_) rfl (.inl ⟨by rfl,?_⟩) ?_
  rotate_left
  · (intro w' hSw; (try dsimp only at hSw); have q0 := hSw.2.2; go_simp <;> with_reducible rfl)
  (try simp only [Act.put,aT,aZ,aS])
  refine wT (i := 8) (oi := ⟨some 29,.move (.tmp 4),109,"text.go:81",#[⟨4,.guard⟩],some (4,true)⟩) (v := ?_) rfl (.inl ⟨by rfl,?_⟩) ?_
  rotate_left
  · (intro w' hSw; (try dsimp only at hSw); go_simp <;> with_reducible rfl)
  (try simp only [Act.put,aT,aZ,aS])
  refine wT (i := 9) (oi := ⟨some 30,.indexAddr 109 (.tmp 29) (.const (.int .i64 0)),0,"text.go:81",#[⟨8,.data⟩,⟨4,.guard⟩],some (4,true)⟩) (v := ?_) rfl (.inl ⟨by rfl,?_⟩) ?_
  rotate_left
  · (intro w' hSw; (try dsimp only at hSw); go_simp <;> with_reducible rfl)
  (try simp only [Act.put,aT,aZ,aS])
  refine wT (i := 10) (oi := ⟨some 31,.fieldAddr 116 (.tmp 30) 0,0,"text.go:81",#[⟨9,.data⟩,⟨4,.guard⟩],some (4,true)⟩) (v := ?_) rfl (.inl ⟨by rfl,?_⟩) ?_
  rotate_left
  · (intro w' hSw; (try dsimp only at hSw); go_simp <;> with_reducible rfl)
  (try simp only [Act.put,aT,aZ,aS])
  refine wT (i := 11) (oi := ⟨some 32,.load 9 (.tmp 31),9,"text.go:81",#[⟨10,.data⟩,⟨4,.guard⟩],some (4,true)⟩) (v := ?_) rfl (.inl ⟨by rfl,?_⟩) ?_
  rotate_left
  · (intro w' hSw; (try dsimp only at hSw); have q0 := hSw.2.1.at_ 10 (.string (bt shiftW)) rfl; go_simp <;> with_reducible rfl)
  (try simp only [Act.put,aT,aZ,aS])
  refine wT (i := 12) (oi := ⟨some 33,.binOp .neq 9 (.tmp 28) (.tmp 32) 9,4,"text.go:81",#[⟨7,.data⟩,⟨11,.data⟩,⟨4,.guard⟩],some (4,true)⟩) (v := ?_) rfl (.inl ⟨by rfl,?_⟩) ?_
  rotate_left
  · (intro w' hSw; (try dsimp only at hSw); have q0 := hq; go_simp <;> with_reducible rfl)
  (try simp only [Act.put,aT,aZ,aS])
  refine wT (i := 13) (oi := ⟨some 34,.pick (.tmp 25) (.tmp 33) (.const (.bool false)),4,"text.go:81",#[⟨4,.data⟩,⟨12,.data⟩],none⟩) (v := ?_) rfl (.inl ⟨by rfl,?_⟩) ?_
  rotate_left
  · (intro w' hSw; (try dsimp only at hSw); go_simp <;> with_reducible rfl)
  (try simp only [Act.put,aT,aZ,aS])
  refine wpAnyH_done (by kernel_rfl) ?_ _
  exact ⟨rfl,_,_,_,_,_,_,_,_,_,_,_,_,_,rfl,hS.1⟩
def Pos (T0 T : List UInt8) (J : Jb) (line off n : Nat) : Prop :=
  ((1 ≤ line ∧ line + T.length ≤ T0.length + 1) ∧ J.sh.length ≤ line) ∧
  ((off = 0 ∧ n = 4 ∧ line = 1 ∧ J = zeroJb ∧ T = T0) ∨ (off = 5 ∧ n = 3 ∧ line = 2 ∧ parseJ T0 = ps1 J T) ∨ (off = 10 ∧ n = 2 ∧ ∃ fuel,T.length < fuel ∧ parseJ T0 = ps2 fuel J T line) ∨
   (n = 0 ∧ parseJ T0 = (J,if T = [] then 0 else line)))
def PRQ (T : List UInt8) (w : World) (e : Ending) (w' : World) : Prop := ∃ a c,e = .returned (.tuple #[.agg (jobC (parseJ T).1 (.slice a (parseJ T).1.sh.length c)),.int .i64 ((parseJ T).2 : Nat)]) ∧ ((parseJ T).1.sh.length ≤ c ∧ c ≤ 9223372036854775807) ∧ (∀ q o,a = some ⟨q,o,none⟩ → w.heap.size ≤ q) ∧ Rg w' w'.heap.size a (parseJ T).1.sh ∧ Below w.heap.size w w'
def strLen : Value → Nat
  | .string s => s.size
  | _ => 0
section
variable {g rb Bs : Nat} {w0 w1 w w' : World} {J : Jb} {sv : Value}
theorem PJ.rules (h : PJ g Bs w1 J sv w) (hb : Bk w1 rb 116 rulesC.toArray) (hr : rb < Bs ∧ rb ≠ g) : Bk w rb 116 rulesC.toArray := (h.pb.heap rb hr.1 hr.2).trans hb
theorem PJ.base (h : PJ g Bs w1 J sv w) (hb : Below w0.heap.size w0 w1) (hg : w0.heap.size ≤ g) : Below w0.heap.size w0 w := hb.trans ((h.pb.mono (by have := h.lt; omega)).toBelow hg)
theorem PJ.slice (h : PJ g Bs w1 J sv w) : ∃ a c,sv = .slice a J.sh.length c ∧ (J.sh.length ≤ c ∧ c ≤ 9223372036854775807) ∧ Rg w w.heap.size a J.sh ∧ ∀ q o,a = some ⟨q,o,none⟩ → Bs ≤ q := by
  obtain ⟨a,c,e,_,hr,hq⟩ := rg_of_own h.own
  refine ⟨a,c,e,?_,hr,hq⟩
  rcases h.own.2 with ⟨e2,h0⟩ | ⟨q,cap,cur,e2,_,_,hnc,hcm,_⟩
  · have h9 := e.symm.trans e2
    injection h9 with _ _ h10
    exact ⟨by omega,by omega⟩
  · rw [e] at e2
    cases e2
    exact ⟨hnc,hcm⟩
theorem PRQ.of {T : List UInt8} {line : Nat} {a : Option Addr} {c : Nat} (h : PJ g Bs w1 J (.slice a J.sh.length c) w) (hc : J.sh.length ≤ c ∧ c ≤ 9223372036854775807) (hb : Below w0.heap.size w0 w1) (hg : w0.heap.size ≤ g) (hr : Rg w w.heap.size a J.sh) (hq : ∀ q o,a = some ⟨q,o,none⟩ → Bs ≤ q) (he : parseJ T = (J,line)) :
    PRQ T w0 (.returned (.tuple #[.agg (jobC J (.slice a J.sh.length c)),.int .i64 line])) (w.setRow g (jobC J (.slice a J.sh.length c))) := by
  have hz := h.lt
  have hbl : Below w0.heap.size w0 (w.setRow g (jobC J (.slice a J.sh.length c))) := below_setRow (h.base hb hg) hg _
  have hsz : w.heap.size ≤ (w.setRow g (jobC J (.slice a J.sh.length c))).heap.size := (below_setRow (Below.refl w0.heap.size w) hg (jobC J (.slice a J.sh.length c))).size
  refine ⟨a,c,by rw [he],by rw [he]; exact hc,(fun q o e => by have := hq q o e; omega),?_,hbl⟩
  rw [he]
  intro k s hs
  obtain ⟨q,o,e,hlt,h0,h1⟩ := hr k s hs
  have hne : q ≠ g := by have := hq q o e; omega
  have hk := setRow_other w g q (jobC J (.slice a J.sh.length c)) hne
  exact ⟨q,o,e,by omega,(World.cell?_of_block hk).trans h0,(World.cell?_of_block hk).trans h1⟩
end
end Go.Proofs.YtljefjngmembkaaGreatDoor
namespace Go.Proofs.YtljefjngmembkaaGreatDoor
set_option linter.all false
open Go.RowKit Go.Lib
set_option maxHeartbeats 2000000 in
set_option maxRecDepth 1000000 in
theorem parse_any (T : ByteArray) (hT : T.size ≤ 900) (w : World) (hl : LibW w) :
    Calls Tryz.prog 35 #[.string T] w (PRQ T.data.toList w) := by
  have HL0 := hidMk hl
  have HT := hidMk hT
  have ba : Bk (w.alloc (.cells (jobC zeroJb (.slice none 0 0)) 30)) w.heap.size 30 (jobC zeroJb (.slice none 0 0)) := Bk.new _ _ _
  have HBA := hidMk ba
  have hza : w.heap.size < (w.alloc (.cells (jobC zeroJb (.slice none 0 0)) 30)).heap.size := by simp
  have HZA := hidMk hza
  have HB0 := hidMk (below0 w (.cells (jobC zeroJb (.slice none 0 0)) 30))
  clear hl ba hza hT
  go_enter Tryz.func35,Tryz.ntmps35
  go_wp2_with fail
  refine (rules_any _).mono ?_
  rintro e w1 ⟨rb,rfl,hrb,hrs,hb1⟩
  have HRB := hidMk hrb
  have HRN := hidMk (And.intro hrb.lt (show rb ≠ w.heap.size by have h1 := HZA.out; have h2 := hrs; simp only [zeroJb,jobC] at h1 h2; omega))
  have HB1 : Hid (Below w.heap.size w w1) := hidMk (HB0.out.trans (hb1.mono (Nat.le_of_lt HZA.out)))
  have HP1 : Hid (PJ w.heap.size w1.heap.size w1 zeroJb (.slice none 0 0) w1) := hidMk ⟨HBA.out.below hb1 HZA.out,⟨rfl,.inl ⟨rfl,rfl⟩⟩,PB.refl _ _ _,Nat.lt_of_lt_of_le HZA.out hb1.size,Nat.le_refl _⟩
  obtain ⟨g,hg⟩ : ∃ x,x = w.heap.size := ⟨_,rfl⟩
  have HG := hidMk (show w.heap.size ≤ g from Nat.le_of_eq hg.symm)
  rw [← hg] at HRN HP1
  have HLW : Hid (∀ {J : Jb} {sv : Value} {wr : World},PJ g w1.heap.size w1 J sv wr → LibW wr) := hidMk fun h => HL0.out.up (h.base HB1.out HG.out)
  dsimp only
  rw [← hg]
  clear hrb hrs hb1 hg HBA HB0 HZA
  go_wp2_with fail
  refine wp_loop (fun a_ wr => ∃ (u1 u5 u6 u7 u8 u9 A0 A1 A2 A3 A4 A5 A6 A7 A8 A9 Aa Ab Ac Ad Ae Af Ag Ah Ai Aj Ak Al Am An Ao Ap Aq Ar As At Au Av Aw Ax Ay Az C0 C1 C2 C3 C4 C5 C6 C7 C8 C9 Ca Cb Cc Cd Ce Cf Cg Ch : Value) (X : ByteArray) (line off n : Nat) (J : Jb) (sv : Value),Hid (PJ g w1.heap.size w1 J sv wr) ∧ Hid (Pos T.data.toList X.data.toList J line off n) ∧ a_ = ⟨#[(.string X),u1,(.pointer (some ⟨g,0,none⟩)),(.int .i64 line),(.slice (some ⟨rb,off,none⟩) n n),u5,u6,u7,u8,u9,A0,A1,A2,A3,A4,A5,A6,A7,A8,A9,Aa,Ab,Ac,Ad,Ae,Af,Ag,Ah,Ai,Aj,Ak,Al,Am,An,Ao,Ap,Aq,Ar,As,At,Au,Av,Aw,Ax,Ay,Az,C0,C1,C2,C3,C4,C5,C6,C7,C8,C9,Ca,Cb,Cc,Cd,Ce,Cf,Cg,Ch],[]⟩) (fun a_ _ => strLen (a_.tmps.getD 0 undef)) ?_ ?_
  · exact ⟨_,_,_,_,_,_,_,_,_,_,_,_,_,_,_,_,_,_,_,_,_,_,_,_,_,_,_,_,_,_,_,_,_,_,_,_,_,_,_,_,_,_,_,_,_,_,_,_,_,_,_,_,_,_,_,_,_,_,_,_,T,1,0,4,zeroJb,_,HP1,hidMk ⟨⟨by omega,Nat.zero_le _⟩,.inl ⟨rfl,rfl,rfl,rfl,rfl⟩⟩,rfl⟩
  · intro a_ wr hx
    obtain ⟨u1,hx⟩ := hx
    obtain ⟨u5,hx⟩ := hx
    obtain ⟨u6,hx⟩ := hx
    obtain ⟨u7,hx⟩ := hx
    obtain ⟨u8,hx⟩ := hx
    obtain ⟨u9,hx⟩ := hx
    obtain ⟨A0,hx⟩ := hx
    obtain ⟨A1,hx⟩ := hx
    obtain ⟨A2,hx⟩ := hx
    obtain ⟨A3,hx⟩ := hx
    obtain ⟨A4,hx⟩ := hx
    obtain ⟨A5,hx⟩ := hx
    obtain ⟨A6,hx⟩ := hx
    obtain ⟨A7,hx⟩ := hx
    obtain ⟨A8,hx⟩ := hx
    obtain ⟨A9,hx⟩ := hx
    obtain ⟨Aa,hx⟩ := hx
    obtain ⟨Ab,hx⟩ := hx
    obtain ⟨Ac,hx⟩ := hx
    obtain ⟨Ad,hx⟩ := hx
    obtain ⟨Ae,hx⟩ := hx
    obtain ⟨Af,hx⟩ := hx
    obtain ⟨Ag,hx⟩ := hx
    obtain ⟨Ah,hx⟩ := hx
    obtain ⟨Ai,hx⟩ := hx
    obtain ⟨Aj,hx⟩ := hx
    obtain ⟨Ak,hx⟩ := hx
    obtain ⟨Al,hx⟩ := hx
    obtain ⟨Am,hx⟩ := hx
    obtain ⟨An,hx⟩ := hx
    obtain ⟨Ao,hx⟩ := hx
    obtain ⟨Ap,hx⟩ := hx
    obtain ⟨Aq,hx⟩ := hx
    obtain ⟨Ar,hx⟩ := hx
    obtain ⟨As,hx⟩ := hx
    obtain ⟨At,hx⟩ := hx
    obtain ⟨Au,hx⟩ := hx
    obtain ⟨Av,hx⟩ := hx
    obtain ⟨Aw,hx⟩ := hx
    obtain ⟨Ax,hx⟩ := hx
    obtain ⟨Ay,hx⟩ := hx
    obtain ⟨Az,hx⟩ := hx
    obtain ⟨C0,hx⟩ := hx
    obtain ⟨C1,hx⟩ := hx
    obtain ⟨C2,hx⟩ := hx
    obtain ⟨C3,hx⟩ := hx
    obtain ⟨C4,hx⟩ := hx
    obtain ⟨C5,hx⟩ := hx
    obtain ⟨C6,hx⟩ := hx
    obtain ⟨C7,hx⟩ := hx
    obtain ⟨C8,hx⟩ := hx
    obtain ⟨C9,hx⟩ := hx
    obtain ⟨Ca,hx⟩ := hx
    obtain ⟨Cb,hx⟩ := hx
    obtain ⟨Cc,hx⟩ := hx
    obtain ⟨Cd,hx⟩ := hx
    obtain ⟨Ce,hx⟩ := hx
    obtain ⟨Cf,hx⟩ := hx
    obtain ⟨Cg,hx⟩ := hx
    obtain ⟨Ch,hx⟩ := hx
    obtain ⟨X,line,off,n,J,sv,HP,HPOS,ha⟩ := hx
    subst ha
    clear HP1
    have hpl := HPOS.out.1.1
    have hsl := HPOS.out.1.2
    have ht1 : T.data.toList.length = T.size := rfl
    have hx1 : X.data.toList.length = X.size := rfl
    have hT := HT.out
    have HSL := hidMk hsl
    have HPL := hidMk (show line ≤ 901 by omega)
    obtain ⟨l1,l2,bq,hcu⟩ : ∃ (l1 l2 : ByteArray) (b : Bool),cut X.data.toList [10] = (l1.data.toList,l2.data.toList,b) := ⟨⟨(cut X.data.toList [10]).1.toArray⟩,⟨(cut X.data.toList [10]).2.1.toArray⟩,(cut X.data.toList [10]).2.2,rfl⟩
    have HCU := hidMk hcu
    have hl1 := cut_longer hcu
    have e1 : l1.data.toList.length = l1.size := rfl
    have e2 : l2.data.toList.length = l2.size := rfl
    have HMEA := hidMk (show bq = true → l2.size < X.size from fun hb => by subst hb; have := cut_shorter hcu; omega)
    have HLEA := hidMk (show bq = true → 1 ≤ line + 1 ∧ line + 1 + l2.data.toList.length ≤ T.data.toList.length + 1 from fun hb => by have := HMEA.out hb; omega)
    have HLS := hidMk (show l1.size ≤ X.size ∧ l2.size ≤ X.size by omega)
    have HWY := hidMk (show IntKind.i64.wrap ((line : Int) + 1) = (line : Int) + 1 from IntWalk.i64_in _ (by omega))
    rcases HPOS.out.2 with ⟨rfl,rfl,hli,hJ0,hX0⟩ | ⟨rfl,rfl,hli,hps⟩ | ⟨rfl,rfl,fuel,hfu,hps⟩ | ⟨rfl,hps⟩
    · have HX := hidMk (show X.size ≤ 900 by omega)
      have HLI := hidMk hli
      have HJ0 := hidMk hJ0
      have HPO := hidMk (show parseJ T.data.toList = parseJ X.data.toList by rw [hX0])
      clear hpl hsl ht1 hx1 hT hcu hl1 e1 e2 hX0 hJ0 hli
      have HC : Hid (cut X.data.toList [10] = (l1.data.toList,l2.data.toList,bq)) := HCU
      go_wp2_with fail
      refine (cut_any X (by have := HX.out; omega) 10 l1 l2 bq HC.out _ (HLW.out HP.out)).mono ?_
      rintro e w5 ⟨rfl,hb5⟩
      have HP5 := hidMk (HP.out.below hb5 (Nat.le_refl _))
      clear hb5 HP
      go_wp2_with fail
      refine (split_any l1 (by have := HX.out; have := HLS.out.1; omega) _ (HLW.out HP5.out)).mono ?_
      rintro e w6 ⟨l,m,hm,hbl,hz,hll,rfl,hss,hb6⟩
      have HM := hidMk hm
      have HL := hidMk hbl
      have HZ := hidMk hz
      have HLL := hidMk hll
      have HS6 := hidMk hss
      have HP6 := hidMk (HP5.out.below hb6 (Nat.le_refl _))
      have HRL6 := hidMk (HP6.out.rules HRB.out HRN.out)
      obtain ⟨wpb,hpb⟩ : ∃ x,x = w5.heap.size := ⟨_,rfl⟩
      rw [← hpb] at HS6
      rw [← hpb]
      clear hm hbl hz hll hss hb6 HP5 hpb
      go_wp2_with fail
      refine par60 HRL6.out ?_
      intro w7 h7
      intros
      have HP7 := hidMk (HP6.out.below h7 (Nat.le_refl _))
      have HRL7 := hidMk (HP7.out.rules HRB.out HRN.out)
      have HSS : Hid (Ss w7 w7.heap.size wpb 0 l) := hidMk ⟨Nat.lt_of_lt_of_le HS6.out.1 h7.size,fun k x hx => (h7.cell (p := ⟨wpb,0 + k,none⟩) HS6.out.1).trans (HS6.out.2 k x hx)⟩
      clear h7 HP6 HS6 HRL6
      cases bq with
      | false =>
        obtain ⟨a_,c_,hsv,hcl,hrg,hqo⟩ := HP7.out.slice
        subst hsv
        have HBK := hidMk HP7.out.bk
        have HFIN := hidMk (PRQ.of HP7.out hcl HB1.out HG.out hrg hqo (show parseJ T.data.toList = (J,line) from (by rw [HJ0.out,HLI.out]; exact HPO.out.trans (parse0_no HC.out))))
        clear hcl hrg hqo
        go_wp2_with (first | (refine wpList_load_row rfl 30 _ rfl g rfl _ (jobC J (.slice a_ J.sh.length c_)) _ _ HBK.out Tryz.underlying30 rfl szJob ?_) | (refine wpList_store_row rfl 30 _ _ rfl g (jobC J (.slice a_ J.sh.length c_)) rfl rfl 30 (jobC J (.slice a_ J.sh.length c_)) HBK.out szJob rfl (oneJob _ _ _ _) ?_))
        show bodyPost _ _ _ _ _ _
        refine bodyPost_ret (results_row_tmp Tryz.results35 _ _ _ _ _ (.int .i64 line) rfl rfl (HBK.out.row (jobC J (.slice a_ J.sh.length c_))) Tryz.underlying30 szJob) rfl ?_
        exact HFIN.out
      | true =>
        have HME := hidMk (HMEA.out rfl)
        have HLE := hidMk (HLEA.out rfl)
        have q0 := HRL7.out.at_ 0 (.string (bt tongueW)) rfl ; have q1 := HRL7.out.at_ 1 (.bool false) rfl ; have q2 := HRL7.out.at_ 2 (.int .i64 3) rfl ; have q3 := HRL7.out.at_ 3 (.int .i64 0) rfl ; have q4 := HRL7.out.at_ 4 (.func (.func 77) #[] #[]) rfl
        go_wp2_with fail
        refine (apply_any (bt tongueW) false 3 0 m 77 g wpb 0 m l w7 (HLW.out HP7.out) HSS.out HM.out (Nat.le_refl _) ⟨by decide,by decide,HLL.out⟩ (by decide) HZ.out (TK g w1.heap.size w1 J f1) enter77 ?_).mono ?_
        · intro ss ns ra rc nv wz hbz hs1 hn1 hq1 hr1 ho1
          exact tk1 (HP7.out.below hbz (Nat.le_refl _)) (Nat.lt_succ_of_lt HP7.out.bk.lt) hs1 hn1 hq1 hr1 ho1
        rintro e w8 hA
        have HA := hidMk hA
        have HBL := hidMk (show ap tongueW 3 0 (bytes l) = ap tongueW 3 0 (split l1.data.toList [32]) from by rw [HL.out])
        have HWB := hidMk (show (bt tongueW).data.toList = tongueW from rfl)
        clear hA q0 q1 q2 q3 q4
        cases hap : ap tongueW 3 0 (split l1.data.toList [32]) with
        | none =>
          have HAP := hidMk hap
          clear hap
          obtain ⟨he8,hb8⟩ := HA.out.1 (by rw [HWB.out,HBL.out]; exact HAP.out)
          subst he8
          have HP8 := hidMk (HP7.out.below hb8 (Nat.le_refl _))
          clear hb8 HA
          obtain ⟨a_,c_,hsv,hcl,hrg,hqo⟩ := HP8.out.slice
          subst hsv
          have HBK := hidMk HP8.out.bk
          have HFIN := hidMk (PRQ.of HP8.out hcl HB1.out HG.out hrg hqo (show parseJ T.data.toList = (J,line) from (by rw [HJ0.out,HLI.out]; exact HPO.out.trans (parse0_bad HC.out HAP.out))))
          clear hcl hrg hqo
          go_wp2_with (first | (refine wpList_load_row rfl 30 _ rfl g rfl _ (jobC J (.slice a_ J.sh.length c_)) _ _ HBK.out Tryz.underlying30 rfl szJob ?_) | (refine wpList_store_row rfl 30 _ _ rfl g (jobC J (.slice a_ J.sh.length c_)) rfl rfl 30 (jobC J (.slice a_ J.sh.length c_)) HBK.out szJob rfl (oneJob _ _ _ _) ?_))
          show bodyPost _ _ _ _ _ _
          refine bodyPost_ret (results_row_tmp Tryz.results35 _ _ _ _ _ (.int .i64 line) rfl rfl (HBK.out.row (jobC J (.slice a_ J.sh.length c_))) Tryz.underlying30 szJob) rfl ?_
          exact HFIN.out
        | some q =>
          obtain ⟨ss,ns⟩ := q
          have HAP := hidMk hap
          have hnu := ap_nums hap
          clear hap
          obtain ⟨he8,wz,hbz,v',hP8⟩ := HA.out.2 ss ns (by rw [HWB.out,HBL.out]; exact HAP.out)
          subst he8
          have HP8 := hidMk hP8
          have HNU := hidMk hnu
          have HRL8 := hidMk (hP8.rules HRB.out HRN.out)
          clear hP8 hbz HA hnu
          have q1 := HRL8.out.at_ 1 (.bool false) rfl
          have wy := HWY.out
          go_wp2_with fail
          refine ⟨⟨_,_,_,_,_,_,_,_,_,_,_,_,_,_,_,_,_,_,_,_,_,_,_,_,_,_,_,_,_,_,_,_,_,_,_,_,_,_,_,_,_,_,_,_,_,_,_,_,_,_,_,_,_,_,_,_,_,_,_,_,l2,line + 1,_,_,_,v',HP8,hidMk ?_,by rw [show ((line + 1 : Nat) : Int) = (line : Int) + 1 by push_cast; rfl]⟩,HME.out⟩
          obtain ⟨p,t,r,rfl⟩ : ∃ p t r,ss = [p,t,r] := by
            have := HNU.out.1
            match ss,this with
            | [p,t,r],_ => exact ⟨p,t,r,rfl⟩
          exact ⟨⟨HLE.out,Nat.le_succ_of_le HSL.out⟩,.inr (.inl ⟨rfl,rfl,by rw [HLI.out],by obtain rfl := HJ0.out; exact HPO.out.trans (parse0_go HC.out HAP.out)⟩)⟩

    · have HX := hidMk (show X.size ≤ 900 by omega)
      have HLI := hidMk hli
      have HPO := hidMk hps
      clear hpl hsl ht1 hx1 hT hcu hl1 e1 e2 hps hli
      have HC : Hid (cut X.data.toList [10] = (l1.data.toList,l2.data.toList,bq)) := HCU
      go_wp2_with fail
      refine (cut_any X (by have := HX.out; omega) 10 l1 l2 bq HC.out _ (HLW.out HP.out)).mono ?_
      rintro e w5 ⟨rfl,hb5⟩
      have HP5 := hidMk (HP.out.below hb5 (Nat.le_refl _))
      clear hb5 HP
      go_wp2_with fail
      refine (split_any l1 (by have := HX.out; have := HLS.out.1; omega) _ (HLW.out HP5.out)).mono ?_
      rintro e w6 ⟨l,m,hm,hbl,hz,hll,rfl,hss,hb6⟩
      have HM := hidMk hm
      have HL := hidMk hbl
      have HZ := hidMk hz
      have HLL := hidMk hll
      have HS6 := hidMk hss
      have HP6 := hidMk (HP5.out.below hb6 (Nat.le_refl _))
      have HRL6 := hidMk (HP6.out.rules HRB.out HRN.out)
      obtain ⟨wpb,hpb⟩ : ∃ x,x = w5.heap.size := ⟨_,rfl⟩
      rw [← hpb] at HS6
      rw [← hpb]
      clear hm hbl hz hll hss hb6 HP5 hpb
      go_wp2_with fail
      refine par61 HRL6.out ?_
      intro w7 h7
      intros
      have HP7 := hidMk (HP6.out.below h7 (Nat.le_refl _))
      have HRL7 := hidMk (HP7.out.rules HRB.out HRN.out)
      have HSS : Hid (Ss w7 w7.heap.size wpb 0 l) := hidMk ⟨Nat.lt_of_lt_of_le HS6.out.1 h7.size,fun k x hx => (h7.cell (p := ⟨wpb,0 + k,none⟩) HS6.out.1).trans (HS6.out.2 k x hx)⟩
      clear h7 HP6 HS6 HRL6
      cases bq with
      | false =>
        obtain ⟨a_,c_,hsv,hcl,hrg,hqo⟩ := HP7.out.slice
        subst hsv
        have HBK := hidMk HP7.out.bk
        have HFIN := hidMk (PRQ.of HP7.out hcl HB1.out HG.out hrg hqo (show parseJ T.data.toList = (J,line) from (by rw [HLI.out]; exact HPO.out.trans (parse1_no HC.out))))
        clear hcl hrg hqo
        go_wp2_with (first | (refine wpList_load_row rfl 30 _ rfl g rfl _ (jobC J (.slice a_ J.sh.length c_)) _ _ HBK.out Tryz.underlying30 rfl szJob ?_) | (refine wpList_store_row rfl 30 _ _ rfl g (jobC J (.slice a_ J.sh.length c_)) rfl rfl 30 (jobC J (.slice a_ J.sh.length c_)) HBK.out szJob rfl (oneJob _ _ _ _) ?_))
        show bodyPost _ _ _ _ _ _
        refine bodyPost_ret (results_row_tmp Tryz.results35 _ _ _ _ _ (.int .i64 line) rfl rfl (HBK.out.row (jobC J (.slice a_ J.sh.length c_))) Tryz.underlying30 szJob) rfl ?_
        exact HFIN.out
      | true =>
        have HME := hidMk (HMEA.out rfl)
        have HLE := hidMk (HLEA.out rfl)
        have q0 := HRL7.out.at_ 5 (.string (bt fileW)) rfl ; have q1 := HRL7.out.at_ 6 (.bool false) rfl ; have q2 := HRL7.out.at_ 7 (.int .i64 4) rfl ; have q3 := HRL7.out.at_ 8 (.int .i64 1) rfl ; have q4 := HRL7.out.at_ 9 (.func (.func 78) #[] #[]) rfl
        go_wp2_with fail
        refine (apply_any (bt fileW) false 4 1 m 78 g wpb 0 m l w7 (HLW.out HP7.out) HSS.out HM.out (Nat.le_refl _) ⟨by decide,by decide,HLL.out⟩ (by decide) HZ.out (TK g w1.heap.size w1 J f2) enter78 ?_).mono ?_
        · intro ss ns ra rc nv wz hbz hs1 hn1 hq1 hr1 ho1
          exact tk2 (HP7.out.below hbz (Nat.le_refl _)) (Nat.lt_succ_of_lt HP7.out.bk.lt) hs1 hn1 hq1 hr1 ho1
        rintro e w8 hA
        have HA := hidMk hA
        have HBL := hidMk (show ap fileW 4 1 (bytes l) = ap fileW 4 1 (split l1.data.toList [32]) from by rw [HL.out])
        have HWB := hidMk (show (bt fileW).data.toList = fileW from rfl)
        clear hA q0 q1 q2 q3 q4
        cases hap : ap fileW 4 1 (split l1.data.toList [32]) with
        | none =>
          have HAP := hidMk hap
          clear hap
          obtain ⟨he8,hb8⟩ := HA.out.1 (by rw [HWB.out,HBL.out]; exact HAP.out)
          subst he8
          have HP8 := hidMk (HP7.out.below hb8 (Nat.le_refl _))
          clear hb8 HA
          obtain ⟨a_,c_,hsv,hcl,hrg,hqo⟩ := HP8.out.slice
          subst hsv
          have HBK := hidMk HP8.out.bk
          have HFIN := hidMk (PRQ.of HP8.out hcl HB1.out HG.out hrg hqo (show parseJ T.data.toList = (J,line) from (by rw [HLI.out]; exact HPO.out.trans (parse1_bad HC.out HAP.out))))
          clear hcl hrg hqo
          go_wp2_with (first | (refine wpList_load_row rfl 30 _ rfl g rfl _ (jobC J (.slice a_ J.sh.length c_)) _ _ HBK.out Tryz.underlying30 rfl szJob ?_) | (refine wpList_store_row rfl 30 _ _ rfl g (jobC J (.slice a_ J.sh.length c_)) rfl rfl 30 (jobC J (.slice a_ J.sh.length c_)) HBK.out szJob rfl (oneJob _ _ _ _) ?_))
          show bodyPost _ _ _ _ _ _
          refine bodyPost_ret (results_row_tmp Tryz.results35 _ _ _ _ _ (.int .i64 line) rfl rfl (HBK.out.row (jobC J (.slice a_ J.sh.length c_))) Tryz.underlying30 szJob) rfl ?_
          exact HFIN.out
        | some q =>
          obtain ⟨ss,ns⟩ := q
          have HAP := hidMk hap
          have hnu := ap_nums hap
          clear hap
          obtain ⟨he8,wz,hbz,v',hP8⟩ := HA.out.2 ss ns (by rw [HWB.out,HBL.out]; exact HAP.out)
          subst he8
          have HP8 := hidMk hP8
          have HNU := hidMk hnu
          have HRL8 := hidMk (hP8.rules HRB.out HRN.out)
          clear hP8 hbz HA hnu
          have q1 := HRL8.out.at_ 6 (.bool false) rfl
          have wy := HWY.out
          go_wp2_with fail
          refine ⟨⟨_,_,_,_,_,_,_,_,_,_,_,_,_,_,_,_,_,_,_,_,_,_,_,_,_,_,_,_,_,_,_,_,_,_,_,_,_,_,_,_,_,_,_,_,_,_,_,_,_,_,_,_,_,_,_,_,_,_,_,_,l2,line + 1,_,_,_,v',HP8,hidMk ?_,by rw [show ((line + 1 : Nat) : Int) = (line : Int) + 1 by push_cast; rfl]⟩,HME.out⟩
          obtain ⟨u,d,x,y,rfl⟩ : ∃ u d x y,ss = [u,d,x,y] := by
            have := HNU.out.1
            match ss,this with
            | [u,d,x,y],_ => exact ⟨u,d,x,y,rfl⟩
          obtain ⟨le,rfl⟩ : ∃ le,ns = [le] := by
            have := HNU.out.2
            match ns,this with
            | [le],_ => exact ⟨le,rfl⟩
          exact ⟨⟨HLE.out,Nat.le_succ_of_le HSL.out⟩,.inr (.inr (.inl ⟨rfl,rfl,l2.data.toList.length + 1,Nat.lt_succ_self _,by rw [HLI.out]; exact HPO.out.trans (parse1_go HC.out HAP.out)⟩))⟩

    · have HX := hidMk (show X.size ≤ 900 by omega)
      obtain ⟨fuel,rfl⟩ : ∃ q,fuel = q + 1 := ⟨fuel - 1,by omega⟩
      have HPO := hidMk hps
      have HFUA := hidMk (show bq = true → l2.data.toList.length < fuel from fun hb => by have := HMEA.out hb; omega)
      clear hpl hsl ht1 hx1 hT hcu hl1 e1 e2 hps hfu
      have HC : Hid (cut X.data.toList [10] = (l1.data.toList,l2.data.toList,bq)) := HCU
      go_wp2_with fail
      refine (cut_any X (by have := HX.out; omega) 10 l1 l2 bq HC.out _ (HLW.out HP.out)).mono ?_
      rintro e w5 ⟨rfl,hb5⟩
      have HP5 := hidMk (HP.out.below hb5 (Nat.le_refl _))
      clear hb5 HP
      go_wp2_with fail
      refine (split_any l1 (by have := HX.out; have := HLS.out.1; omega) _ (HLW.out HP5.out)).mono ?_
      rintro e w6 ⟨l,m,hm,hbl,hz,hll,rfl,hss,hb6⟩
      have HM := hidMk hm
      have HL := hidMk hbl
      have HZ := hidMk hz
      have HLL := hidMk hll
      have HS6 := hidMk hss
      have HP6 := hidMk (HP5.out.below hb6 (Nat.le_refl _))
      have HRL6 := hidMk (HP6.out.rules HRB.out HRN.out)
      obtain ⟨wpb,hpb⟩ : ∃ x,x = w5.heap.size := ⟨_,rfl⟩
      rw [← hpb] at HS6
      rw [← hpb]
      clear hm hbl hz hll hss hb6 HP5 hpb
      obtain ⟨x0,hx0⟩ : ∃ x,l[0]? = some x := ⟨l[0]'(by have := HM.out; omega),List.getElem?_eq_getElem _⟩
      obtain ⟨bw,hbw⟩ : ∃ b,(!(x0.toList == (bt shiftW).toList)) = b := ⟨_,rfl⟩
      have HQ := hidMk hbw
      have HHQ := hidMk (head_eq HL.out hx0 hbw)
      have HX0 := hidMk (HS6.out.2 0 x0 hx0)
      clear hx0 hbw
      go_wp2_with fail
      refine par62 HRL6.out HX0.out HQ.out ?_
      intro w7 h7
      intros
      have HP7 := hidMk (HP6.out.below h7 (Nat.le_refl _))
      have HRL7 := hidMk (HP7.out.rules HRB.out HRN.out)
      have HSS : Hid (Ss w7 w7.heap.size wpb 0 l) := hidMk ⟨Nat.lt_of_lt_of_le HS6.out.1 h7.size,fun k x hx => (h7.cell (p := ⟨wpb,0 + k,none⟩) HS6.out.1).trans (HS6.out.2 k x hx)⟩
      clear h7 HP6 HS6 HRL6
      clear HX0 HQ
      cases bw with
      | false =>
        have HHD := hidMk (HHQ.out.2 rfl)
        cases bq with
        | false =>
          obtain ⟨a_,c_,hsv,hcl,hrg,hqo⟩ := HP7.out.slice
          subst hsv
          have HBK := hidMk HP7.out.bk
          have HFIN := hidMk (PRQ.of HP7.out hcl HB1.out HG.out hrg hqo (show parseJ T.data.toList = (J,line) from HPO.out.trans (parse2_no HC.out)))
          clear hcl hrg hqo
          go_wp2_with (first | (refine wpList_load_row rfl 30 _ rfl g rfl _ (jobC J (.slice a_ J.sh.length c_)) _ _ HBK.out Tryz.underlying30 rfl szJob ?_) | (refine wpList_store_row rfl 30 _ _ rfl g (jobC J (.slice a_ J.sh.length c_)) rfl rfl 30 (jobC J (.slice a_ J.sh.length c_)) HBK.out szJob rfl (oneJob _ _ _ _) ?_))
          show bodyPost _ _ _ _ _ _
          refine bodyPost_ret (results_row_tmp Tryz.results35 _ _ _ _ _ (.int .i64 line) rfl rfl (HBK.out.row (jobC J (.slice a_ J.sh.length c_))) Tryz.underlying30 szJob) rfl ?_
          exact HFIN.out
        | true =>
          have HME := hidMk (HMEA.out rfl)
          have HLE := hidMk (HLEA.out rfl)
          have HFU := hidMk (HFUA.out rfl)
          have HSH := hidMk (Nat.le_trans HSL.out (by have := HPL.out; omega : line ≤ 1000000))
          have q0 := HRL7.out.at_ 10 (.string (bt shiftW)) rfl ; have q1 := HRL7.out.at_ 11 (.bool true) rfl ; have q2 := HRL7.out.at_ 12 (.int .i64 1) rfl ; have q3 := HRL7.out.at_ 13 (.int .i64 0) rfl ; have q4 := HRL7.out.at_ 14 (.func (.func 79) #[] #[]) rfl
          go_wp2_with fail
          refine (apply_any (bt shiftW) true 1 0 m 79 g wpb 0 m l w7 (HLW.out HP7.out) HSS.out HM.out (Nat.le_refl _) ⟨by decide,by decide,HLL.out⟩ (by decide) HZ.out (TK g w1.heap.size w1 J f3) enter79 ?_).mono ?_
          · intro ss ns ra rc nv wz hbz hs1 hn1 hq1 hr1 ho1
            exact tk3 (HP7.out.below hbz (Nat.le_refl _)) (Nat.lt_succ_of_lt HP7.out.bk.lt) hs1 hn1 HSH.out hr1
          rintro e w8 hA
          have HA := hidMk hA
          have HBL := hidMk (show ap shiftW 1 0 (bytes l) = ap shiftW 1 0 (split l1.data.toList [32]) from by rw [HL.out])
          have HWB := hidMk (show (bt shiftW).data.toList = shiftW from rfl)
          clear hA q0 q1 q2 q3 q4
          cases hap : ap shiftW 1 0 (split l1.data.toList [32]) with
          | none =>
            have HAP := hidMk hap
            clear hap
            obtain ⟨he8,hb8⟩ := HA.out.1 (by rw [HWB.out,HBL.out]; exact HAP.out)
            subst he8
            have HP8 := hidMk (HP7.out.below hb8 (Nat.le_refl _))
            clear hb8 HA
            obtain ⟨a_,c_,hsv,hcl,hrg,hqo⟩ := HP8.out.slice
            subst hsv
            have HBK := hidMk HP8.out.bk
            have HFIN := hidMk (PRQ.of HP8.out hcl HB1.out HG.out hrg hqo (show parseJ T.data.toList = (J,line) from HPO.out.trans (parse2_bad HC.out HHD.out HAP.out)))
            clear hcl hrg hqo
            go_wp2_with (first | (refine wpList_load_row rfl 30 _ rfl g rfl _ (jobC J (.slice a_ J.sh.length c_)) _ _ HBK.out Tryz.underlying30 rfl szJob ?_) | (refine wpList_store_row rfl 30 _ _ rfl g (jobC J (.slice a_ J.sh.length c_)) rfl rfl 30 (jobC J (.slice a_ J.sh.length c_)) HBK.out szJob rfl (oneJob _ _ _ _) ?_))
            show bodyPost _ _ _ _ _ _
            refine bodyPost_ret (results_row_tmp Tryz.results35 _ _ _ _ _ (.int .i64 line) rfl rfl (HBK.out.row (jobC J (.slice a_ J.sh.length c_))) Tryz.underlying30 szJob) rfl ?_
            exact HFIN.out
          | some q =>
            obtain ⟨ss,ns⟩ := q
            have HAP := hidMk hap
            have hnu := ap_nums hap
            clear hap
            obtain ⟨he8,wz,hbz,v',hP8⟩ := HA.out.2 ss ns (by rw [HWB.out,HBL.out]; exact HAP.out)
            subst he8
            have HP8 := hidMk hP8
            have HNU := hidMk hnu
            have HRL8 := hidMk (hP8.rules HRB.out HRN.out)
            clear hP8 hbz HA hnu
            have q1 := HRL8.out.at_ 11 (.bool true) rfl
            have wy := HWY.out
            go_wp2_with fail
            refine ⟨⟨_,_,_,_,_,_,_,_,_,_,_,_,_,_,_,_,_,_,_,_,_,_,_,_,_,_,_,_,_,_,_,_,_,_,_,_,_,_,_,_,_,_,_,_,_,_,_,_,_,_,_,_,_,_,_,_,_,_,_,_,l2,line + 1,_,_,_,v',HP8,hidMk ?_,by rw [show ((line + 1 : Nat) : Int) = (line : Int) + 1 by push_cast; rfl]⟩,HME.out⟩
            obtain ⟨s,rfl⟩ : ∃ s,ss = [s] := by
              have := HNU.out.1
              match ss,this with
              | [s],_ => exact ⟨s,rfl⟩
            refine ⟨⟨HLE.out,?_⟩,.inr (.inr (.inl ⟨rfl,rfl,fuel,HFU.out,HPO.out.trans (parse2_go HC.out HHD.out HAP.out)⟩))⟩
            have h1 := HSL.out
            show (J.sh ++ [s]).length ≤ _
            rw [List.length_append,List.length_singleton]
            omega
      | true =>
        have HHD := hidMk (show ¬ (split l1.data.toList [32]).head? = some shiftW from fun h => nomatch HHQ.out.1 h)
        cases bq with
        | false =>
          obtain ⟨a_,c_,hsv,hcl,hrg,hqo⟩ := HP7.out.slice
          subst hsv
          have HBK := hidMk HP7.out.bk
          have HFIN := hidMk (PRQ.of HP7.out hcl HB1.out HG.out hrg hqo (show parseJ T.data.toList = (J,line) from HPO.out.trans (parse2_no HC.out)))
          clear hcl hrg hqo
          go_wp2_with (first | (refine wpList_load_row rfl 30 _ rfl g rfl _ (jobC J (.slice a_ J.sh.length c_)) _ _ HBK.out Tryz.underlying30 rfl szJob ?_) | (refine wpList_store_row rfl 30 _ _ rfl g (jobC J (.slice a_ J.sh.length c_)) rfl rfl 30 (jobC J (.slice a_ J.sh.length c_)) HBK.out szJob rfl (oneJob _ _ _ _) ?_))
          show bodyPost _ _ _ _ _ _
          refine bodyPost_ret (results_row_tmp Tryz.results35 _ _ _ _ _ (.int .i64 line) rfl rfl (HBK.out.row (jobC J (.slice a_ J.sh.length c_))) Tryz.underlying30 szJob) rfl ?_
          exact HFIN.out
        | true =>
          have HME := hidMk (HMEA.out rfl)
          have HLE := hidMk (HLEA.out rfl)
          have q0 := HRL7.out.at_ 15 (.string (bt passW)) rfl ; have q1 := HRL7.out.at_ 16 (.bool false) rfl ; have q2 := HRL7.out.at_ 17 (.int .i64 0) rfl ; have q3 := HRL7.out.at_ 18 (.int .i64 2) rfl ; have q4 := HRL7.out.at_ 19 (.func (.func 80) #[] #[]) rfl
          go_wp2_with fail
          refine (apply_any (bt passW) false 0 2 m 80 g wpb 0 m l w7 (HLW.out HP7.out) HSS.out HM.out (Nat.le_refl _) ⟨by decide,by decide,HLL.out⟩ (by decide) HZ.out (TK g w1.heap.size w1 J f4) enter80 ?_).mono ?_
          · intro ss ns ra rc nv wz hbz hs1 hn1 hq1 hr1 ho1
            exact tk4 (HP7.out.below hbz (Nat.le_refl _)) (Nat.lt_succ_of_lt HP7.out.bk.lt) hs1 hn1 ho1
          rintro e w8 hA
          have HA := hidMk hA
          have HBL := hidMk (show ap passW 0 2 (bytes l) = ap passW 0 2 (split l1.data.toList [32]) from by rw [HL.out])
          have HWB := hidMk (show (bt passW).data.toList = passW from rfl)
          clear hA q0 q1 q2 q3 q4
          cases hap : ap passW 0 2 (split l1.data.toList [32]) with
          | none =>
            have HAP := hidMk hap
            clear hap
            obtain ⟨he8,hb8⟩ := HA.out.1 (by rw [HWB.out,HBL.out]; exact HAP.out)
            subst he8
            have HP8 := hidMk (HP7.out.below hb8 (Nat.le_refl _))
            clear hb8 HA
            obtain ⟨a_,c_,hsv,hcl,hrg,hqo⟩ := HP8.out.slice
            subst hsv
            have HBK := hidMk HP8.out.bk
            have HFIN := hidMk (PRQ.of HP8.out hcl HB1.out HG.out hrg hqo (show parseJ T.data.toList = (J,line) from HPO.out.trans (parse3_bad HC.out HHD.out HAP.out)))
            clear hcl hrg hqo
            go_wp2_with (first | (refine wpList_load_row rfl 30 _ rfl g rfl _ (jobC J (.slice a_ J.sh.length c_)) _ _ HBK.out Tryz.underlying30 rfl szJob ?_) | (refine wpList_store_row rfl 30 _ _ rfl g (jobC J (.slice a_ J.sh.length c_)) rfl rfl 30 (jobC J (.slice a_ J.sh.length c_)) HBK.out szJob rfl (oneJob _ _ _ _) ?_))
            show bodyPost _ _ _ _ _ _
            refine bodyPost_ret (results_row_tmp Tryz.results35 _ _ _ _ _ (.int .i64 line) rfl rfl (HBK.out.row (jobC J (.slice a_ J.sh.length c_))) Tryz.underlying30 szJob) rfl ?_
            exact HFIN.out
          | some q =>
            obtain ⟨ss,ns⟩ := q
            have HAP := hidMk hap
            have hnu := ap_nums hap
            clear hap
            obtain ⟨he8,wz,hbz,v',hP8⟩ := HA.out.2 ss ns (by rw [HWB.out,HBL.out]; exact HAP.out)
            subst he8
            have HP8 := hidMk hP8
            have HNU := hidMk hnu
            have HRL8 := hidMk (hP8.rules HRB.out HRN.out)
            clear hP8 hbz HA hnu
            have q1 := HRL8.out.at_ 16 (.bool false) rfl
            have wy := HWY.out
            go_wp2_with fail
            refine ⟨⟨_,_,_,_,_,_,_,_,_,_,_,_,_,_,_,_,_,_,_,_,_,_,_,_,_,_,_,_,_,_,_,_,_,_,_,_,_,_,_,_,_,_,_,_,_,_,_,_,_,_,_,_,_,_,_,_,_,_,_,_,l2,line + 1,_,_,_,v',HP8,hidMk ?_,by rw [show ((line + 1 : Nat) : Int) = (line : Int) + 1 by push_cast; rfl]⟩,HME.out⟩
            obtain ⟨i,j,rfl⟩ : ∃ i j,ns = [i,j] := by
              have := HNU.out.2
              match ns,this with
              | [i,j],_ => exact ⟨i,j,rfl⟩
            exact ⟨⟨HLE.out,Nat.le_succ_of_le HSL.out⟩,.inr (.inr (.inr ⟨rfl,HPO.out.trans (parse3_go HC.out HHD.out HAP.out)⟩))⟩

    · have HPO := hidMk hps
      clear hpl hsl ht1 hx1 hT hcu hl1 e1 e2 hps
      obtain ⟨a_,c_,hsv,hcl,hrg,hqo⟩ := HP.out.slice
      subst hsv
      have HBK := hidMk HP.out.bk
      have HFIN := hidMk (fun line (he : parseJ T.data.toList = (J,line)) => PRQ.of (line := line) HP.out hcl HB1.out HG.out hrg hqo he)
      clear hcl hrg hqo
      go_wp2_with (first | (refine wpList_load_row rfl 30 _ rfl g rfl _ (jobC J (.slice a_ J.sh.length c_)) _ _ HBK.out Tryz.underlying30 rfl szJob ?_) | (refine wpList_store_row rfl 30 _ _ rfl g (jobC J (.slice a_ J.sh.length c_)) rfl rfl 30 (jobC J (.slice a_ J.sh.length c_)) HBK.out szJob rfl (oneJob _ _ _ _) ?_))
      · rename_i hX
        refine bodyPost_ret (results_row_tmp Tryz.results35 _ _ _ _ _ (.int .i64 line) rfl rfl (HBK.out.row (jobC J (.slice a_ J.sh.length c_))) Tryz.underlying30 szJob) rfl ?_
        exact HFIN.out line (by rw [HPO.out,if_neg]; intro e; rw [ByteArray.toList_eq,e] at hX; exact absurd hX (by decide))
      · rename_i hX
        refine bodyPost_ret (results_row_tmp Tryz.results35 _ _ _ _ _ (.int .i64 0) rfl rfl (HBK.out.row (jobC J (.slice a_ J.sh.length c_))) Tryz.underlying30 szJob) rfl ?_
        exact HFIN.out 0 (by rw [HPO.out,if_pos]; rw [ByteArray.toList_eq] at hX; simpa using hX)
end Go.Proofs.YtljefjngmembkaaGreatDoor
