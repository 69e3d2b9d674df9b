/- Part 29 of the proof: RtL, JoD, JoE, StepL. -/
import Derived.Deep.WholeRow
import Derived.Test.YtljefjngmembkaaGreatDoorT27
import Derived.Test.YtljefjngmembkaaGreatDoorT16
import Derived.Test.YtljefjngmembkaaGreatDoorT11
namespace Go.Proofs.YtljefjngmembkaaGreatDoor
set_option linter.all false
open Go.RowKit Go.Lib
theorem tmod_bd (x n : Int) (hn : 1 ≤ n) : -n < x.tmod n ∧ x.tmod n < n := by
  have h1 := Int.tmod_lt_of_pos x (by omega : 0 < n)
  have h2 := Int.lt_tmod_of_pos x (by omega : 0 < n)
  exact ⟨h2,h1⟩
set_option maxHeartbeats 1000000 in
theorem turn_any (x n : Int) (hx : -9223372036854775808 ≤ x ∧ x ≤ 9223372036854775807) (hn : 1 ≤ n ∧ n ≤ 1000) (w : World) :
    Calls Tryz.prog 34 #[.int .i64 x,.int .i64 n] w fun e w' => ∃ r,e = .returned (.int .i64 r) ∧ (0 ≤ r ∧ r < n) ∧ Below w.heap.size w w' := by
  by_cases h2 : n < 2
  · go_enter Tryz.func34,Tryz.ntmps34
    go_wp2
    go_ret
    exact ⟨0,rfl,⟨by omega,by omega⟩,Below.refl _ _⟩
  · have b1 := tmod_bd x n hn.1
    have b2 := tmod_bd (x.tmod n + n) n hn.1
    have b3 : 0 ≤ (x.tmod n + n).tmod n := Int.tmod_nonneg n (by omega)
    have hn0 : ¬ n = 0 := by omega
    have hn0' : (n == 0) = false := by rw [beq_eq_false_iff_ne]; exact hn0
    have e1 : IntKind.i64.wrap (x.tmod n) = x.tmod n := IntWalk.i64_in _ (by omega)
    have e2 : IntKind.i64.wrap (x.tmod n + n) = x.tmod n + n := IntWalk.i64_in _ (by omega)
    have e3 : IntKind.i64.wrap ((x.tmod n + n).tmod n) = (x.tmod n + n).tmod n := IntWalk.i64_in _ (by omega)
    go_enter Tryz.func34,Tryz.ntmps34
    go_wp2
    go_ret
    exact ⟨_,rfl,⟨Int.emod_nonneg _ (by omega),Int.emod_lt_of_pos _ (by omega)⟩,Below.refl _ _⟩
theorem conv_byte (w : World) (g : Nat) (n : Int) (hA : Bk w g 5 #[.int .u8 n]) : (convert 73 9 (.slice (some ⟨g,0,none⟩) 1 1)).run Tryz.prog w = .ok (.string (ByteArray.empty.push (UInt8.ofNat n.toNat))) w := by
  have hl : (loadCells ⟨g,0,none⟩ 1).run Tryz.prog w = .ok ([n].map (Value.int .u8)).toArray w := by
    have := run_loadCells_list (P := Tryz.prog) w ⟨g,0,none⟩ ([n].map (Value.int .u8)) (fun j v hj => by
      rw [Addr.add_mid,Nat.zero_add]; exact hA.at_ j v (by simpa using hj))
    simpa using this
  rw [run_convert_bytes_string w 73 9 5 _ 1 1 Tryz.underlying73 Tryz.underlying5 Tryz.underlying9,run_bytesToString w _ 1 1 [n] hl]
  rfl
set_option maxHeartbeats 1000000 in
set_option maxRecDepth 1000000 in
theorem hm8 {X : ByteArray} {by_ : Int} {i : Nat} {w : World} {Q : Exit → Act → World → Prop} {u1 u2 u4 u5 u6 u7 u8 A0 A1 A2 A3 A4 A5 A6 A7 A8 A9 Aa Ab Ac Ad Ae Af Ag Ah Ai Aj Ak Al Am An Ao Ap Aq Ar As At Au Av Aw Ax Ay Az C0 C1 C2 C3 C4 C5 C6 : Value} (hby : 0 ≤ by_ ∧ by_ ≤ 255) (hX : X.size ≤ 1000) (hi : i < X.size) (hK : ∀ (w' : World) (Y : ByteArray),Y.size ≤ X.size + 1 → Below w.heap.size w w' → ∀ (v34 v35 v36 v37 v38 v39 v40 v41 : Value),Q .normal ⟨#[(.string X),u1,u2,(.int .u8 by_),u4,u5,u6,u7,(.string Y),(.int .i64 (i : Int)),A0,A1,A2,A3,A4,A5,A6,A7,A8,A9,Aa,Ab,Ac,Ad,Ae,Af,Ag,Ah,Ai,Aj,Ak,Al,Am,An,v34,v35,v36,v37,v38,v39,v40,v41,Aw,Ax,Ay,Az,C0,C1,C2,C3,C4,C5,C6],[]⟩ w') : Code.wp Tryz.prog (Code.region 8 #[⟨some 34,.move (.tmp 0),9,"base.go:212",#[],none⟩,⟨some 35,.move (.tmp 9),3,"base.go:212",#[],none⟩,⟨some 36,.slice 9 (.tmp 34) none (some (.tmp 35)) none,9,"base.go:212",#[⟨0,.data⟩,⟨1,.data⟩],none⟩,⟨some 37,.move (.tmp 0),9,"base.go:212",#[],none⟩,⟨some 38,.move (.tmp 9),3,"base.go:212",#[],none⟩,⟨some 39,.binOp .add 3 (.tmp 38) (.const (.int .i64 1)) 3,3,"base.go:212",#[⟨4,.data⟩],none⟩,⟨some 40,.slice 9 (.tmp 37) (some (.tmp 39)) none none,9,"base.go:212",#[⟨3,.data⟩,⟨5,.data⟩],none⟩,⟨some 41,.binOp .add 9 (.tmp 36) (.tmp 40) 9,9,"base.go:212",#[⟨2,.data⟩,⟨6,.data⟩],none⟩,⟨some 8,.assign (.tmp 41),9,"base.go:212",#[⟨7,.data⟩,⟨0,.phase⟩,⟨1,.phase⟩,⟨2,.phase⟩,⟨3,.phase⟩,⟨4,.phase⟩,⟨5,.phase⟩,⟨6,.phase⟩,⟨7,.phase⟩],none⟩] true) Q ⟨#[(.string X),u1,u2,(.int .u8 by_),u4,u5,u6,u7,u8,(.int .i64 (i : Int)),A0,A1,A2,A3,A4,A5,A6,A7,A8,A9,Aa,Ab,Ac,Ad,Ae,Af,Ag,Ah,Ai,Aj,Ak,Al,Am,An,Ao,Ap,Aq,Ar,As,At,Au,Av,Aw,Ax,Ay,Az,C0,C1,C2,C3,C4,C5,C6],[]⟩ w := by
  have HK := hidMk hK
  clear hK
  have z0 : (0 : Int) ≤ (i : Int) := by omega
  have z1 : (i : Int) ≤ (X.size : Int) := by omega
  have z2 : (i : Int) + 1 ≤ (X.size : Int) := by omega
  have z3 : (0 : Int) ≤ (i : Int) + 1 := by omega
  have wi : IntKind.i64.wrap ((i : Int) + 1) = (i : Int) + 1 := IntWalk.i64_in _ (by omega)
  have e1 : (X.extract 0 i).size = i := by rw [ByteArray.size_extract]; omega
  have e2 : (X.extract (i + 1) X.size).size = X.size - (i + 1) := by rw [ByteArray.size_extract]; omega
  have e3 : (X.extract i X.size).size = X.size - i := by rw [ByteArray.size_extract]; omega
  refine region_via (R := fun a_ e_ a' w' => e_ = .normal ∧ ∃ (v34 v35 v36 v37 v38 v39 v40 v41 : Value) (Y : ByteArray),a' = (((((((((a_.put (some 34) v34).put (some 35) v35).put (some 36) v36).put (some 37) v37).put (some 38) v38).put (some 39) v39).put (some 40) v40).put (some 41) v41).put (some 8) (.string Y)) ∧ Y.size ≤ X.size + 1 ∧ Below w.heap.size w w') ?_ ?_
  rotate_left
  · rintro e_ a' w' ⟨rfl,v34,v35,v36,v37,v38,v39,v40,v41,Y,rfl,h1,h2⟩
    simp only [Act.put,aT,aZ,aS]
    exact HK.out _ Y h1 h2 _ _ _ _ _ _ _ _ 
  have hB : Below w.heap.size w w.drew := (Below.refl _ _).drew
  refine wp_region_held_drew (S := fun _ => True) (by kernel_rfl) trivial (fun _ => ?_)
  have hzz : w.heap.size ≤ w.drew.heap.size := hB.size
  generalize w.drew = wd at hB hzz ⊢
  refine wT (i := 0) (v := ?_) rfl (.inl ⟨by rfl,?_⟩) ?_
  rotate_left
  · (intro w' hSw; (try dsimp only at hSw); go_simp <;> with_reducible rfl)
  (try simp only [Act.put,aT,aZ,aS])
  refine wT (i := 1) (v := ?_) rfl (.inl ⟨by rfl,?_⟩) ?_
  rotate_left
  · (intro w' hSw; (try dsimp only at hSw); go_simp <;> with_reducible rfl)
  (try simp only [Act.put,aT,aZ,aS])
  refine wT (i := 2) (v := ?_) rfl (.inl ⟨by rfl,?_⟩) ?_
  rotate_left
  · (intro w' hSw; (try dsimp only at hSw); (have y0 := z0; have y1 := z1); go_simp <;> with_reducible rfl)
  (try simp only [Act.put,aT,aZ,aS])
  refine wT (i := 3) (v := ?_) rfl (.inl ⟨by rfl,?_⟩) ?_
  rotate_left
  · (intro w' hSw; (try dsimp only at hSw); go_simp <;> with_reducible rfl)
  (try simp only [Act.put,aT,aZ,aS])
  refine wT (i := 4) (v := ?_) rfl (.inl ⟨by rfl,?_⟩) ?_
  rotate_left
  · (intro w' hSw; (try dsimp only at hSw); go_simp <;> with_reducible rfl)
  (try simp only [Act.put,aT,aZ,aS])
  refine wT (i := 5) (v := ?_) rfl (.inl ⟨by rfl,?_⟩) ?_
  rotate_left
  · (intro w' hSw; (try dsimp only at hSw); have y0 := wi; go_simp <;> with_reducible rfl)
  (try simp only [Act.put,aT,aZ,aS])
  refine wT (i := 6) (v := ?_) rfl (.inl ⟨by rfl,?_⟩) ?_
  rotate_left
  · (intro w' hSw; (try dsimp only at hSw); (have y0 := z2; have y1 := z3); go_simp <;> with_reducible rfl)
  (try simp only [Act.put,aT,aZ,aS])
  refine wT (i := 7) (v := ?_) rfl (.inl ⟨by rfl,?_⟩) ?_
  rotate_left
  · (intro w' hSw; (try dsimp only at hSw); (have y0 : ¬ 9223372036854775807 < i + (X.size - (i + 1)) := by omega); go_simp <;> with_reducible rfl)
  (try simp only [Act.put,aT,aZ,aS])
  refine wpAnyH_ready (rs := [8]) (by kernel_rfl) (by simp) ?_
  refine AllReadyH.cons rfl (fun K hK => ?_) ?_
  · go_simp
    refine hK.out _ _ trivial (fun _ => ?_)
    clear hK K
    (try simp only [Act.put,aT,aZ,aS])
    refine wpAnyH_done (by kernel_rfl) ?_ _
    exact ⟨rfl,_,_,_,_,_,_,_,_,_,rfl,by simp only [ByteArray.size_append,e1,e2,e3]; omega,hB⟩
  exact AllReadyH.nil
set_option maxHeartbeats 1000000 in
set_option maxRecDepth 1000000 in
theorem hm6 {X : ByteArray} {by_ : Int} {i : Nat} {w : World} {Q : Exit → Act → World → Prop} {u1 u2 u4 u5 u6 u7 u8 A0 A1 A2 A3 A4 A5 A6 A7 A8 A9 Aa Ab Ac Ad Ae Af Ag Ah Ai Aj Ak Al Am An Ao Ap Aq Ar As At Au Av Aw Ax Ay Az C0 C1 C2 C3 C4 C5 C6 : Value} (hby : 0 ≤ by_ ∧ by_ ≤ 255) (hX : X.size ≤ 1000) (hi : i < X.size) (hK : ∀ (w' : World) (Y : ByteArray),Y.size ≤ X.size + 1 → Below w.heap.size w w' → ∀ (v20 v21 v22 v23 v24 v25 v26 v27 v28 v29 v30 v31 : Value),Q .normal ⟨#[(.string X),u1,u2,(.int .u8 by_),u4,u5,u6,u7,(.string Y),(.int .i64 (i : Int)),A0,A1,A2,A3,A4,A5,A6,A7,A8,A9,v20,v21,v22,v23,v24,v25,v26,v27,v28,v29,v30,v31,Am,An,Ao,Ap,Aq,Ar,As,At,Au,Av,Aw,Ax,Ay,Az,C0,C1,C2,C3,C4,C5,C6],[]⟩ w') : Code.wp Tryz.prog (Code.region 6 #[⟨some 20,.move (.tmp 0),9,"base.go:210",#[],none⟩,⟨some 21,.move (.tmp 9),3,"base.go:210",#[],none⟩,⟨some 22,.slice 9 (.tmp 20) none (some (.tmp 21)) none,9,"base.go:210",#[⟨0,.data⟩,⟨1,.data⟩],none⟩,⟨some 23,.move (.tmp 3),5,"base.go:210",#[],none⟩,⟨some 24,.buildSlice 73 1 #[(0,.tmp 23)],73,"base.go:210",#[⟨3,.data⟩],none⟩,⟨some 25,.convert 73 9 (.tmp 24),9,"base.go:210",#[⟨4,.data⟩],none⟩,⟨some 26,.binOp .add 9 (.tmp 22) (.tmp 25) 9,9,"base.go:210",#[⟨2,.data⟩,⟨5,.data⟩],none⟩,⟨some 27,.move (.tmp 0),9,"base.go:210",#[],none⟩,⟨some 28,.move (.tmp 9),3,"base.go:210",#[],none⟩,⟨some 29,.binOp .add 3 (.tmp 28) (.const (.int .i64 1)) 3,3,"base.go:210",#[⟨8,.data⟩],none⟩,⟨some 30,.slice 9 (.tmp 27) (some (.tmp 29)) none none,9,"base.go:210",#[⟨7,.data⟩,⟨9,.data⟩],none⟩,⟨some 31,.binOp .add 9 (.tmp 26) (.tmp 30) 9,9,"base.go:210",#[⟨6,.data⟩,⟨10,.data⟩],none⟩,⟨some 8,.assign (.tmp 31),9,"base.go:210",#[⟨11,.data⟩,⟨0,.phase⟩,⟨1,.phase⟩,⟨2,.phase⟩,⟨3,.phase⟩,⟨4,.phase⟩,⟨5,.phase⟩,⟨6,.phase⟩,⟨7,.phase⟩,⟨8,.phase⟩,⟨9,.phase⟩,⟨10,.phase⟩,⟨11,.phase⟩],none⟩] true) Q ⟨#[(.string X),u1,u2,(.int .u8 by_),u4,u5,u6,u7,u8,(.int .i64 (i : Int)),A0,A1,A2,A3,A4,A5,A6,A7,A8,A9,Aa,Ab,Ac,Ad,Ae,Af,Ag,Ah,Ai,Aj,Ak,Al,Am,An,Ao,Ap,Aq,Ar,As,At,Au,Av,Aw,Ax,Ay,Az,C0,C1,C2,C3,C4,C5,C6],[]⟩ w := by
  have HK := hidMk hK
  clear hK
  have z0 : (0 : Int) ≤ (i : Int) := by omega
  have z1 : (i : Int) ≤ (X.size : Int) := by omega
  have z2 : (i : Int) + 1 ≤ (X.size : Int) := by omega
  have z3 : (0 : Int) ≤ (i : Int) + 1 := by omega
  have wi : IntKind.i64.wrap ((i : Int) + 1) = (i : Int) + 1 := IntWalk.i64_in _ (by omega)
  have e1 : (X.extract 0 i).size = i := by rw [ByteArray.size_extract]; omega
  have e2 : (X.extract (i + 1) X.size).size = X.size - (i + 1) := by rw [ByteArray.size_extract]; omega
  have e3 : (X.extract i X.size).size = X.size - i := by rw [ByteArray.size_extract]; omega
  refine region_via (R := fun a_ e_ a' w' => e_ = .normal ∧ ∃ (v20 v21 v22 v23 v24 v25 v26 v27 v28 v29 v30 v31 : Value) (Y : ByteArray),a' = (((((((((((((a_.put (some 20) v20).put (some 21) v21).put (some 22) v22).put (some 23) v23).put (some 24) v24).put (some 25) v25).put (some 26) v26).put (some 27) v27).put (some 28) v28).put (some 29) v29).put (some 30) v30).put (some 31) v31).put (some 8) (.string Y)) ∧ Y.size ≤ X.size + 1 ∧ Below w.heap.size w w') ?_ ?_
  rotate_left
  · rintro e_ a' w' ⟨rfl,v20,v21,v22,v23,v24,v25,v26,v27,v28,v29,v30,v31,Y,rfl,h1,h2⟩
    simp only [Act.put,aT,aZ,aS]
    exact HK.out _ Y h1 h2 _ _ _ _ _ _ _ _ _ _ _ _ 
  have hB : Below w.heap.size w w.drew := (Below.refl _ _).drew
  refine wp_region_held_drew (S := fun _ => True) (by kernel_rfl) trivial (fun _ => ?_)
  have hzz : w.heap.size ≤ w.drew.heap.size := hB.size
  generalize w.drew = wd at hB hzz ⊢
  refine wT (i := 0) (v := ?_) rfl (.inl ⟨by rfl,?_⟩) ?_
  rotate_left
  · (intro w' hSw; (try dsimp only at hSw); go_simp <;> with_reducible rfl)
  (try simp only [Act.put,aT,aZ,aS])
  refine wT (i := 1) (v := ?_) rfl (.inl ⟨by rfl,?_⟩) ?_
  rotate_left
  · (intro w' hSw; (try dsimp only at hSw); go_simp <;> with_reducible rfl)
  (try simp only [Act.put,aT,aZ,aS])
  refine wT (i := 2) (v := ?_) rfl (.inl ⟨by rfl,?_⟩) ?_
  rotate_left
  · (intro w' hSw; (try dsimp only at hSw); (have y0 := z0; have y1 := z1); go_simp <;> with_reducible rfl)
  (try simp only [Act.put,aT,aZ,aS])
  refine wT (i := 3) (v := ?_) rfl (.inl ⟨by rfl,?_⟩) ?_
  rotate_left
  · (intro w' hSw; (try dsimp only at hSw); go_simp <;> with_reducible rfl)
  (try simp only [Act.put,aT,aZ,aS])
  refine wT (i := 7) (v := ?_) rfl (.inl ⟨by rfl,?_⟩) ?_
  rotate_left
  · (intro w' hSw; (try dsimp only at hSw); go_simp <;> with_reducible rfl)
  (try simp only [Act.put,aT,aZ,aS])
  refine wT (i := 8) (v := ?_) rfl (.inl ⟨by rfl,?_⟩) ?_
  rotate_left
  · (intro w' hSw; (try dsimp only at hSw); go_simp <;> with_reducible rfl)
  (try simp only [Act.put,aT,aZ,aS])
  refine wT (i := 9) (v := ?_) rfl (.inl ⟨by rfl,?_⟩) ?_
  rotate_left
  · (intro w' hSw; (try dsimp only at hSw); have y0 := wi; go_simp <;> with_reducible rfl)
  (try simp only [Act.put,aT,aZ,aS])
  refine wT (i := 10) (v := ?_) rfl (.inl ⟨by rfl,?_⟩) ?_
  rotate_left
  · (intro w' hSw; (try dsimp only at hSw); (have y0 := z2; have y1 := z3); go_simp <;> with_reducible rfl)
  (try simp only [Act.put,aT,aZ,aS])
  refine wpAnyH_ready (rs := [4]) (by kernel_rfl) (by simp) ?_
  refine AllReadyH.cons rfl (fun K hK => ?_) ?_
  · have hA : Bk (wd.alloc (.cells #[.int .u8 by_] 5)) wd.heap.size 5 #[.int .u8 by_] := Bk.new _ _ _
    have hB_ : Below w.heap.size w (wd.alloc (.cells #[.int .u8 by_] 5)) := hB.trans ((Below.refl _ _).alloc hzz _)
    go_simp
    show K _ (wd.alloc (.cells #[.int .u8 by_] 5))
    refine hK.out _ _ trivial (fun _ => ?_)
    clear hB hzz
    have hB := hB_
    clear hB_
    generalize wd.heap.size = gA at hA ⊢
    generalize (wd.alloc (.cells #[.int .u8 by_] 5)) = wz at hA hB ⊢
    clear hK K
    (try simp only [Act.put,aT,aZ,aS])
    refine wpAnyH_ready (rs := [5]) (by kernel_rfl) (by simp) ?_
    refine AllReadyH.cons rfl (fun K hK => ?_) ?_
    · have hcv := conv_byte wz gA by_ hA
      go_simp
      refine hK.out _ _ trivial (fun _ => ?_)
      clear hcv hA
      have hbs : (ByteArray.empty.push (UInt8.ofNat by_.toNat)).size = 1 := rfl
      generalize ByteArray.empty.push (UInt8.ofNat by_.toNat) = BB at hbs ⊢
      clear hK K
      (try simp only [Act.put,aT,aZ,aS])
      refine wT (i := 6) (v := ?_) rfl (.inl ⟨by rfl,?_⟩) ?_
      rotate_left
      · (intro w' hSw; (try dsimp only at hSw); (have y0 : ¬ 9223372036854775807 < i + 1 := by omega); go_simp <;> with_reducible rfl)
      (try simp only [Act.put,aT,aZ,aS])
      refine wT (i := 11) (v := ?_) rfl (.inl ⟨by rfl,?_⟩) ?_
      rotate_left
      · (intro w' hSw; (try dsimp only at hSw); (have y0 : ¬ 9223372036854775807 < i + 1 + (X.size - (i + 1)) := by omega); go_simp <;> with_reducible rfl)
      (try simp only [Act.put,aT,aZ,aS])
      refine wpAnyH_ready (rs := [12]) (by kernel_rfl) (by simp) ?_
      refine AllReadyH.cons rfl (fun K hK => ?_) ?_
      · go_simp
        refine hK.out _ _ trivial (fun _ => ?_)
        clear hK K
        (try simp only [Act.put,aT,aZ,aS])
        refine wpAnyH_done (by kernel_rfl) ?_ _
        exact ⟨rfl,_,_,_,_,_,_,_,_,_,_,_,_,_,rfl,by simp only [ByteArray.size_append,hbs,e1,e2,e3]; omega,hB⟩
      exact AllReadyH.nil
    exact AllReadyH.nil
  exact AllReadyH.nil
set_option maxHeartbeats 1000000 in
set_option maxRecDepth 1000000 in
theorem hm9 {X : ByteArray} {by_ : Int} {i : Nat} {w : World} {Q : Exit → Act → World → Prop} {u1 u2 u4 u5 u6 u7 u8 A0 A1 A2 A3 A4 A5 A6 A7 A8 A9 Aa Ab Ac Ad Ae Af Ag Ah Ai Aj Ak Al Am An Ao Ap Aq Ar As At Au Av Aw Ax Ay Az C0 C1 C2 C3 C4 C5 C6 : Value} (hby : 0 ≤ by_ ∧ by_ ≤ 255) (hX : X.size ≤ 1000) (hi : i < X.size) (hK : ∀ (w' : World) (Y : ByteArray),Y.size ≤ X.size + 1 → Below w.heap.size w w' → ∀ (v42 v43 v44 v45 v46 v47 v48 v49 v50 v51 v52 : Value),Q .normal ⟨#[(.string X),u1,u2,(.int .u8 by_),u4,u5,u6,u7,(.string Y),(.int .i64 (i : Int)),A0,A1,A2,A3,A4,A5,A6,A7,A8,A9,Aa,Ab,Ac,Ad,Ae,Af,Ag,Ah,Ai,Aj,Ak,Al,Am,An,Ao,Ap,Aq,Ar,As,At,Au,Av,v42,v43,v44,v45,v46,v47,v48,v49,v50,v51,v52],[]⟩ w') : Code.wp Tryz.prog (Code.region 9 #[⟨some 42,.move (.tmp 0),9,"base.go:214",#[],none⟩,⟨some 43,.move (.tmp 9),3,"base.go:214",#[],none⟩,⟨some 44,.slice 9 (.tmp 42) none (some (.tmp 43)) none,9,"base.go:214",#[⟨0,.data⟩,⟨1,.data⟩],none⟩,⟨some 45,.move (.tmp 3),5,"base.go:214",#[],none⟩,⟨some 46,.buildSlice 73 1 #[(0,.tmp 45)],73,"base.go:214",#[⟨3,.data⟩],none⟩,⟨some 47,.convert 73 9 (.tmp 46),9,"base.go:214",#[⟨4,.data⟩],none⟩,⟨some 48,.binOp .add 9 (.tmp 44) (.tmp 47) 9,9,"base.go:214",#[⟨2,.data⟩,⟨5,.data⟩],none⟩,⟨some 49,.move (.tmp 0),9,"base.go:214",#[],none⟩,⟨some 50,.move (.tmp 9),3,"base.go:214",#[],none⟩,⟨some 51,.slice 9 (.tmp 49) (some (.tmp 50)) none none,9,"base.go:214",#[⟨7,.data⟩,⟨8,.data⟩],none⟩,⟨some 52,.binOp .add 9 (.tmp 48) (.tmp 51) 9,9,"base.go:214",#[⟨6,.data⟩,⟨9,.data⟩],none⟩,⟨some 8,.assign (.tmp 52),9,"base.go:214",#[⟨10,.data⟩,⟨0,.phase⟩,⟨1,.phase⟩,⟨2,.phase⟩,⟨3,.phase⟩,⟨4,.phase⟩,⟨5,.phase⟩,⟨6,.phase⟩,⟨7,.phase⟩,⟨8,.phase⟩,⟨9,.phase⟩,⟨10,.phase⟩],none⟩] true) Q ⟨#[(.string X),u1,u2,(.int .u8 by_),u4,u5,u6,u7,u8,(.int .i64 (i : Int)),A0,A1,A2,A3,A4,A5,A6,A7,A8,A9,Aa,Ab,Ac,Ad,Ae,Af,Ag,Ah,Ai,Aj,Ak,Al,Am,An,Ao,Ap,Aq,Ar,As,At,Au,Av,Aw,Ax,Ay,Az,C0,C1,C2,C3,C4,C5,C6],[]⟩ w := by
  have HK := hidMk hK
  clear hK
  have z0 : (0 : Int) ≤ (i : Int) := by omega
  have z1 : (i : Int) ≤ (X.size : Int) := by omega
  have z2 : (i : Int) + 1 ≤ (X.size : Int) := by omega
  have z3 : (0 : Int) ≤ (i : Int) + 1 := by omega
  have wi : IntKind.i64.wrap ((i : Int) + 1) = (i : Int) + 1 := IntWalk.i64_in _ (by omega)
  have e1 : (X.extract 0 i).size = i := by rw [ByteArray.size_extract]; omega
  have e2 : (X.extract (i + 1) X.size).size = X.size - (i + 1) := by rw [ByteArray.size_extract]; omega
  have e3 : (X.extract i X.size).size = X.size - i := by rw [ByteArray.size_extract]; omega
  refine region_via (R := fun a_ e_ a' w' => e_ = .normal ∧ ∃ (v42 v43 v44 v45 v46 v47 v48 v49 v50 v51 v52 : Value) (Y : ByteArray),a' = ((((((((((((a_.put (some 42) v42).put (some 43) v43).put (some 44) v44).put (some 45) v45).put (some 46) v46).put (some 47) v47).put (some 48) v48).put (some 49) v49).put (some 50) v50).put (some 51) v51).put (some 52) v52).put (some 8) (.string Y)) ∧ Y.size ≤ X.size + 1 ∧ Below w.heap.size w w') ?_ ?_
  rotate_left
  · rintro e_ a' w' ⟨rfl,v42,v43,v44,v45,v46,v47,v48,v49,v50,v51,v52,Y,rfl,h1,h2⟩
    simp only [Act.put,aT,aZ,aS]
    exact HK.out _ Y h1 h2 _ _ _ _ _ _ _ _ _ _ _ 
  have hB : Below w.heap.size w w.drew := (Below.refl _ _).drew
  refine wp_region_held_drew (S := fun _ => True) (by kernel_rfl) trivial (fun _ => ?_)
  have hzz : w.heap.size ≤ w.drew.heap.size := hB.size
  generalize w.drew = wd at hB hzz ⊢
  refine wT (i := 0) (v := ?_) rfl (.inl ⟨by rfl,?_⟩) ?_
  rotate_left
  · (intro w' hSw; (try dsimp only at hSw); go_simp <;> with_reducible rfl)
  (try simp only [Act.put,aT,aZ,aS])
  refine wT (i := 1) (v := ?_) rfl (.inl ⟨by rfl,?_⟩) ?_
  rotate_left
  · (intro w' hSw; (try dsimp only at hSw); go_simp <;> with_reducible rfl)
  (try simp only [Act.put,aT,aZ,aS])
  refine wT (i := 2) (v := ?_) rfl (.inl ⟨by rfl,?_⟩) ?_
  rotate_left
  · (intro w' hSw; (try dsimp only at hSw); (have y0 := z0; have y1 := z1); go_simp <;> with_reducible rfl)
  (try simp only [Act.put,aT,aZ,aS])
  refine wT (i := 3) (v := ?_) rfl (.inl ⟨by rfl,?_⟩) ?_
  rotate_left
  · (intro w' hSw; (try dsimp only at hSw); go_simp <;> with_reducible rfl)
  (try simp only [Act.put,aT,aZ,aS])
  refine wT (i := 7) (v := ?_) rfl (.inl ⟨by rfl,?_⟩) ?_
  rotate_left
  · (intro w' hSw; (try dsimp only at hSw); go_simp <;> with_reducible rfl)
  (try simp only [Act.put,aT,aZ,aS])
  refine wT (i := 8) (v := ?_) rfl (.inl ⟨by rfl,?_⟩) ?_
  rotate_left
  · (intro w' hSw; (try dsimp only at hSw); go_simp <;> with_reducible rfl)
  (try simp only [Act.put,aT,aZ,aS])
  refine wT (i := 9) (v := ?_) rfl (.inl ⟨by rfl,?_⟩) ?_
  rotate_left
  · (intro w' hSw; (try dsimp only at hSw); (have y0 := z0; have y1 := z1); go_simp <;> with_reducible rfl)
  (try simp only [Act.put,aT,aZ,aS])
  refine wpAnyH_ready (rs := [4]) (by kernel_rfl) (by simp) ?_
  refine AllReadyH.cons rfl (fun K hK => ?_) ?_
  · have hA : Bk (wd.alloc (.cells #[.int .u8 by_] 5)) wd.heap.size 5 #[.int .u8 by_] := Bk.new _ _ _
    have hB_ : Below w.heap.size w (wd.alloc (.cells #[.int .u8 by_] 5)) := hB.trans ((Below.refl _ _).alloc hzz _)
    go_simp
    show K _ (wd.alloc (.cells #[.int .u8 by_] 5))
    refine hK.out _ _ trivial (fun _ => ?_)
    clear hB hzz
    have hB := hB_
    clear hB_
    generalize wd.heap.size = gA at hA ⊢
    generalize (wd.alloc (.cells #[.int .u8 by_] 5)) = wz at hA hB ⊢
    clear hK K
    (try simp only [Act.put,aT,aZ,aS])
    refine wpAnyH_ready (rs := [5]) (by kernel_rfl) (by simp) ?_
    refine AllReadyH.cons rfl (fun K hK => ?_) ?_
    · have hcv := conv_byte wz gA by_ hA
      go_simp
      refine hK.out _ _ trivial (fun _ => ?_)
      clear hcv hA
      have hbs : (ByteArray.empty.push (UInt8.ofNat by_.toNat)).size = 1 := rfl
      generalize ByteArray.empty.push (UInt8.ofNat by_.toNat) = BB at hbs ⊢
      clear hK K
      (try simp only [Act.put,aT,aZ,aS])
      refine wT (i := 6) (v := ?_) rfl (.inl ⟨by rfl,?_⟩) ?_
      rotate_left
      · (intro w' hSw; (try dsimp only at hSw); (have y0 : ¬ 9223372036854775807 < i + 1 := by omega); go_simp <;> with_reducible rfl)
      (try simp only [Act.put,aT,aZ,aS])
      refine wT (i := 10) (v := ?_) rfl (.inl ⟨by rfl,?_⟩) ?_
      rotate_left
      · (intro w' hSw; (try dsimp only at hSw); (have y0 : ¬ 9223372036854775807 < i + 1 + (X.size - i) := by omega); go_simp <;> with_reducible rfl)
      (try simp only [Act.put,aT,aZ,aS])
      refine wpAnyH_ready (rs := [11]) (by kernel_rfl) (by simp) ?_
      refine AllReadyH.cons rfl (fun K hK => ?_) ?_
      · go_simp
        refine hK.out _ _ trivial (fun _ => ?_)
        clear hK K
        (try simp only [Act.put,aT,aZ,aS])
        refine wpAnyH_done (by kernel_rfl) ?_ _
        exact ⟨rfl,_,_,_,_,_,_,_,_,_,_,_,_,rfl,by simp only [ByteArray.size_append,hbs,e1,e2,e3]; omega,hB⟩
      exact AllReadyH.nil
    exact AllReadyH.nil
  exact AllReadyH.nil
set_option maxHeartbeats 1000000 in
set_option maxRecDepth 1000000 in
theorem harmed_any (X : ByteArray) (at_ kind by_ : Int) (w : World) (hX : X.size ≤ 1000) (hat : -9223372036854775808 ≤ at_ ∧ at_ ≤ 9223372036854775807) (hby : 0 ≤ by_ ∧ by_ ≤ 255) :
    Calls Tryz.prog 10 #[.string X,.int .i64 at_,.int .i64 kind,.int .u8 by_] w fun e w' => ∃ Y : ByteArray,e = .returned (.string Y) ∧ Y.size ≤ X.size + 1 ∧ Below w.heap.size w w' := by
  obtain ⟨bz,hz⟩ : ∃ b,(X.toList == []) = b := ⟨_,rfl⟩
  have HZ := hidMk hz
  go_enter Tryz.func10,Tryz.ntmps10
  cases bz
  case true =>
    go_wp2
    go_ret
    exact ⟨X,rfl,by omega,Below.refl _ _⟩
  have h0 : 1 ≤ X.size := by
    rcases Nat.eq_zero_or_pos X.size with h | h
    · have hX0 : X = ByteArray.empty := by
        obtain ⟨d⟩ := X
        have : d = #[] := Array.eq_empty_of_size_eq_zero h
        rw [this]; rfl
      rw [hX0] at hz
      unfold ByteArray.toList ByteArray.toList.loop at hz
      exact absurd hz (by simp)
    · exact h
  have hz1 : X.toList.isEmpty = false := by rw [← hz]; cases X.toList <;> rfl
  go_wp2_with fail
  clear hz1 hz
  refine (turn_any at_ X.size hat (by omega) _).mono ?_
  rintro e w1 ⟨r,rfl,hr,hb⟩
  obtain ⟨i,rfl⟩ := Int.eq_ofNat_of_zero_le hr.1
  have HB := hidMk hb
  have hi : i < X.size := by omega
  have HI := hidMk hi
  have HX := hidMk hX
  have HY := hidMk hby
  have end_ : ∀ (w' : World) (Y : ByteArray),Y.size ≤ X.size + 1 → Below w1.heap.size w1 w' → ∃ Z : ByteArray,Ending.returned (.string Y) = .returned (.string Z) ∧ Z.size ≤ X.size + 1 ∧ Below w.heap.size w w' := fun w' Y h1 h2 => ⟨Y,rfl,h1,hb.trans (h2.mono hb.size)⟩
  have HE := hidMk end_
  clear hr hb h0 hi end_ hat
  obtain ⟨b0,hb0⟩ : ∃ b,(kind == 0) = b := ⟨_,rfl⟩
  obtain ⟨b1,hb1⟩ : ∃ b,(kind == 1) = b := ⟨_,rfl⟩
  cases b0
  case true =>
    go_wp2_with fail
    refine hm6 HY.out HX.out HI.out ?_
    intro w' Y h1 h2 v20 v21 v22 v23 v24 v25 v26 v27 v28 v29 v30 v31
    go_wp2
    go_ret
    exact HE.out _ _ h1 h2
  cases b1
  case true =>
    go_wp2_with fail
    refine hm8 HY.out HX.out HI.out ?_
    intro w' Y h1 h2 v34 v35 v36 v37 v38 v39 v40 v41
    go_wp2
    go_ret
    exact HE.out _ _ h1 h2
  case false =>
    go_wp2_with fail
    refine hm9 HY.out HX.out HI.out ?_
    intro w' Y h1 h2 v42 v43 v44 v45 v46 v47 v48 v49 v50 v51 v52
    go_wp2
    go_ret
    exact HE.out _ _ h1 h2
end Go.Proofs.YtljefjngmembkaaGreatDoor
namespace Go.Proofs.YtljefjngmembkaaGreatDoor
set_option linter.all false
open Go.RowKit
set_option maxHeartbeats 1000000 in
set_option maxRecDepth 1000000 in
theorem jopart7 {w0 : World} {b B0 g6 g7 : Nat} {wide loose : Int} {w : World} {wi me p1 p2 t1 t2 r1 r2 u1 u2 d1 d2 x1 x2 y1 y2 : Int}  {u3 u4 u5 u8 u9 A0 A1 A2 A3 A4 A5 A6 A7 A8 A9 Aa Ab Ac Ad Ae Af Ag Ah Ai Aj Ak Al Am An Ao Ap Aq Ar As At Au Av Aw Ax Ay Az C0 C1 C2 C3 C4 C5 C6 C7 C8 C9 Ca Cb Cc Cd Ce Cf Cg Ch Ci Cj Ck Cl Cm Cn Co Cp Cq Cr Cs Ct Cu Cv Cw Cx Cy Cz D0 D1 : Value} (hwd : 0 ≤ wide ∧ wide ≤ 40) (hlo : 0 ≤ loose ∧ loose ≤ 40) (hwi : 1 ≤ wi ∧ wi ≤ 6) (hme : 0 ≤ me ∧ me ≤ 3) (hp : -60 ≤ p1 ∧ p1 ≤ p2 ∧ p2 ≤ 60) (ht : 18 ≤ t1 ∧ t1 ≤ t2 ∧ t2 ≤ 100) (hr : 18 ≤ r1 ∧ r1 ≤ r2 ∧ r2 ≤ 100) (hu : 0 ≤ u1 ∧ u1 ≤ u2 ∧ u2 ≤ 12) (hd : 0 ≤ d1 ∧ d1 ≤ d2 ∧ d2 ≤ 12) (hx : 0 ≤ x1 ∧ x1 ≤ x2 ∧ x2 ≤ 12) (hy : 0 ≤ y1 ∧ y1 ≤ y2 ∧ y2 ≤ 12) (hs : JS b B0 w0 g6 g7 (jobC ⟨p1,p2,t1,t2,r1,r2,u1,u2,d1,d2,x1,x2,y1,y2,0,wi,me,[]⟩ (.slice none 0 0)) w) (hB : B0 = w0.heap.size) : Code.wp Tryz.prog jorest7 (QJO b w0) ⟨#[(.pointer (some ⟨b,0,none⟩)),(.int .i64 wide),(.int .i64 loose),u3,u4,u5,(.pointer (some ⟨g6,0,none⟩)),(.pointer (some ⟨g7,0,none⟩)),u8,u9,A0,A1,A2,A3,A4,A5,A6,A7,A8,A9,Aa,Ab,Ac,Ad,Ae,Af,Ag,Ah,Ai,Aj,Ak,Al,Am,An,Ao,Ap,Aq,Ar,As,At,Au,Av,Aw,Ax,Ay,Az,C0,C1,C2,C3,C4,C5,C6,C7,C8,C9,Ca,Cb,Cc,Cd,Ce,Cf,Cg,Ch,Ci,Cj,Ck,Cl,Cm,Cn,Co,Cp,Cq,Cr,Cs,Ct,Cu,Cv,Cw,Cx,Cy,Cz,D0,D1],[]⟩ w := by
  rw [jorest7_eq]
  have HS := hidMk hs
  clear hs
  go_wp2_with fail
  refine (withinP b (10) 30 _ HS.out.pt (by omega)).mono ?_
  rintro e w_ ⟨le,rfl,qle,hk,hp⟩
  have HS' := hidMk (HS.out.pot hk hp)
  clear HS hk hp
  have HS := HS'
  clear HS'
  have z14 := HS.out.bk.at_ 14 _ rfl
  have f14 := HS.out.bk.free 14
  go_wp2_with fail
  have hsn : JS b B0 w0 g6 g7 (jobC ⟨p1,p2,t1,t2,r1,r2,u1,u2,d1,d2,x1,x2,y1,y2,le,wi,me,[]⟩ (.slice none 0 0)) _ := (HS.out.put 14 (.int .i64 le))
  exact jopart8 (wi := wi) (me := me) (p1 := p1) (p2 := p2) (t1 := t1) (t2 := t2) (r1 := r1) (r2 := r2) (u1 := u1) (u2 := u2) (d1 := d1) (d2 := d2) (x1 := x1) (x2 := x2) (y1 := y1) (y2 := y2) (le := le) hwd hlo hwi hme hp ht hr hu hd hx hy (by omega) hsn hB
set_option maxHeartbeats 1000000 in
set_option maxRecDepth 1000000 in
theorem jopart6 {w0 : World} {b B0 g6 g7 : Nat} {wide loose : Int} {w : World} {wi me p1 p2 t1 t2 r1 r2 u1 u2 d1 d2 : Int}  {u3 u4 u5 u8 u9 A0 A1 A2 A3 A4 A5 A6 A7 A8 A9 Aa Ab Ac Ad Ae Af Ag Ah Ai Aj Ak Al Am An Ao Ap Aq Ar As At Au Av Aw Ax Ay Az C0 C1 C2 C3 C4 C5 C6 C7 C8 C9 Ca Cb Cc Cd Ce Cf Cg Ch Ci Cj Ck Cl Cm Cn Co Cp Cq Cr Cs Ct Cu Cv Cw Cx Cy Cz D0 D1 : Value} (hwd : 0 ≤ wide ∧ wide ≤ 40) (hlo : 0 ≤ loose ∧ loose ≤ 40) (hwi : 1 ≤ wi ∧ wi ≤ 6) (hme : 0 ≤ me ∧ me ≤ 3) (hp : -60 ≤ p1 ∧ p1 ≤ p2 ∧ p2 ≤ 60) (ht : 18 ≤ t1 ∧ t1 ≤ t2 ∧ t2 ≤ 100) (hr : 18 ≤ r1 ∧ r1 ≤ r2 ∧ r2 ≤ 100) (hu : 0 ≤ u1 ∧ u1 ≤ u2 ∧ u2 ≤ 12) (hd : 0 ≤ d1 ∧ d1 ≤ d2 ∧ d2 ≤ 12) (hs : JS b B0 w0 g6 g7 (jobC ⟨p1,p2,t1,t2,r1,r2,u1,u2,d1,d2,0,0,0,0,0,wi,me,[]⟩ (.slice none 0 0)) w) (hB : B0 = w0.heap.size) : Code.wp Tryz.prog jorest6 (QJO b w0) ⟨#[(.pointer (some ⟨b,0,none⟩)),(.int .i64 wide),(.int .i64 loose),u3,u4,u5,(.pointer (some ⟨g6,0,none⟩)),(.pointer (some ⟨g7,0,none⟩)),u8,u9,A0,A1,A2,A3,A4,A5,A6,A7,A8,A9,Aa,Ab,Ac,Ad,Ae,Af,Ag,Ah,Ai,Aj,Ak,Al,Am,An,Ao,Ap,Aq,Ar,As,At,Au,Av,Aw,Ax,Ay,Az,C0,C1,C2,C3,C4,C5,C6,C7,C8,C9,Ca,Cb,Cc,Cd,Ce,Cf,Cg,Ch,Ci,Cj,Ck,Cl,Cm,Cn,Co,Cp,Cq,Cr,Cs,Ct,Cu,Cv,Cw,Cx,Cy,Cz,D0,D1],[]⟩ w := by
  rw [jorest6_eq]
  have HS := hidMk hs
  clear hs
  go_wp2_with fail
  refine (uptoP b 4 _ HS.out.pt (by omega)).mono ?_
  rintro e w_ ⟨a1,rfl,qa1,hk,hp⟩
  have HS' := hidMk (HS.out.pot hk hp)
  clear HS hk hp
  have HS := HS'
  clear HS'
  go_wp2_with fail
  refine (nearP b a1 (0) 12 1 _ HS.out.pt (by omega) (by omega)).mono ?_
  rintro e w_ ⟨x1,x2,rfl,qx1,hk,hp⟩
  have HS' := hidMk (HS.out.pot hk hp)
  clear HS hk hp
  have HS := HS'
  clear HS'
  go_wp2_with fail
  refine (uptoP b 4 _ HS.out.pt (by omega)).mono ?_
  rintro e w_ ⟨a2,rfl,qa2,hk,hp⟩
  have HS' := hidMk (HS.out.pot hk hp)
  clear HS hk hp
  have HS := HS'
  clear HS'
  go_wp2_with fail
  refine (nearP b a2 (0) 12 1 _ HS.out.pt (by omega) (by omega)).mono ?_
  rintro e w_ ⟨y1,y2,rfl,qy1,hk,hp⟩
  have HS' := hidMk (HS.out.pot hk hp)
  clear HS hk hp
  have HS := HS'
  clear HS'
  have z10 := HS.out.bk.at_ 10 _ rfl
  have f10 := HS.out.bk.free 10
  have z11 := HS.out.bk.at_ 11 _ rfl
  have f11 := HS.out.bk.free 11
  have z12 := HS.out.bk.at_ 12 _ rfl
  have f12 := HS.out.bk.free 12
  have z13 := HS.out.bk.at_ 13 _ rfl
  have f13 := HS.out.bk.free 13
  go_wp2_with fail
  have hsn : JS b B0 w0 g6 g7 (jobC ⟨p1,p2,t1,t2,r1,r2,u1,u2,d1,d2,x1,x2,y1,y2,0,wi,me,[]⟩ (.slice none 0 0)) _ := ((((HS.out.put 10 (.int .i64 x1)).put 11 (.int .i64 x2)).put 12 (.int .i64 y1)).put 13 (.int .i64 y2))
  exact jopart7 (wi := wi) (me := me) (p1 := p1) (p2 := p2) (t1 := t1) (t2 := t2) (r1 := r1) (r2 := r2) (u1 := u1) (u2 := u2) (d1 := d1) (d2 := d2) (x1 := x1) (x2 := x2) (y1 := y1) (y2 := y2) hwd hlo hwi hme hp ht hr hu hd (by omega) (by omega) hsn hB
set_option maxHeartbeats 1000000 in
set_option maxRecDepth 1000000 in
theorem jopart5 {w0 : World} {b B0 g6 g7 : Nat} {wide loose : Int} {w : World} {wi me p1 p2 t1 t2 r1 r2 : Int}  {u3 u4 u5 u8 u9 A0 A1 A2 A3 A4 A5 A6 A7 A8 A9 Aa Ab Ac Ad Ae Af Ag Ah Ai Aj Ak Al Am An Ao Ap Aq Ar As At Au Av Aw Ax Ay Az C0 C1 C2 C3 C4 C5 C6 C7 C8 C9 Ca Cb Cc Cd Ce Cf Cg Ch Ci Cj Ck Cl Cm Cn Co Cp Cq Cr Cs Ct Cu Cv Cw Cx Cy Cz D0 D1 : Value} (hwd : 0 ≤ wide ∧ wide ≤ 40) (hlo : 0 ≤ loose ∧ loose ≤ 40) (hwi : 1 ≤ wi ∧ wi ≤ 6) (hme : 0 ≤ me ∧ me ≤ 3) (hp : -60 ≤ p1 ∧ p1 ≤ p2 ∧ p2 ≤ 60) (ht : 18 ≤ t1 ∧ t1 ≤ t2 ∧ t2 ≤ 100) (hr : 18 ≤ r1 ∧ r1 ≤ r2 ∧ r2 ≤ 100) (hs : JS b B0 w0 g6 g7 (jobC ⟨p1,p2,t1,t2,r1,r2,0,0,0,0,0,0,0,0,0,wi,me,[]⟩ (.slice none 0 0)) w) (hB : B0 = w0.heap.size) : Code.wp Tryz.prog jorest5 (QJO b w0) ⟨#[(.pointer (some ⟨b,0,none⟩)),(.int .i64 wide),(.int .i64 loose),u3,u4,u5,(.pointer (some ⟨g6,0,none⟩)),(.pointer (some ⟨g7,0,none⟩)),u8,u9,A0,A1,A2,A3,A4,A5,A6,A7,A8,A9,Aa,Ab,Ac,Ad,Ae,Af,Ag,Ah,Ai,Aj,Ak,Al,Am,An,Ao,Ap,Aq,Ar,As,At,Au,Av,Aw,Ax,Ay,Az,C0,C1,C2,C3,C4,C5,C6,C7,C8,C9,Ca,Cb,Cc,Cd,Ce,Cf,Cg,Ch,Ci,Cj,Ck,Cl,Cm,Cn,Co,Cp,Cq,Cr,Cs,Ct,Cu,Cv,Cw,Cx,Cy,Cz,D0,D1],[]⟩ w := by
  rw [jorest5_eq]
  have HS := hidMk hs
  clear hs
  go_wp2_with fail
  refine (withinP b (1) 6 _ HS.out.pt (by omega)).mono ?_
  rintro e w_ ⟨a1,rfl,qa1,hk,hp⟩
  have HS' := hidMk (HS.out.pot hk hp)
  clear HS hk hp
  have HS := HS'
  clear HS'
  go_wp2_with fail
  refine (nearP b a1 (0) 12 loose _ HS.out.pt (by omega) (by omega)).mono ?_
  rintro e w_ ⟨u1,u2,rfl,qu1,hk,hp⟩
  have HS' := hidMk (HS.out.pot hk hp)
  clear HS hk hp
  have HS := HS'
  clear HS'
  go_wp2_with fail
  refine (withinP b (1) 6 _ HS.out.pt (by omega)).mono ?_
  rintro e w_ ⟨a2,rfl,qa2,hk,hp⟩
  have HS' := hidMk (HS.out.pot hk hp)
  clear HS hk hp
  have HS := HS'
  clear HS'
  go_wp2_with fail
  refine (nearP b a2 (0) 12 loose _ HS.out.pt (by omega) (by omega)).mono ?_
  rintro e w_ ⟨d1,d2,rfl,qd1,hk,hp⟩
  have HS' := hidMk (HS.out.pot hk hp)
  clear HS hk hp
  have HS := HS'
  clear HS'
  have z6 := HS.out.bk.at_ 6 _ rfl
  have f6 := HS.out.bk.free 6
  have z7 := HS.out.bk.at_ 7 _ rfl
  have f7 := HS.out.bk.free 7
  have z8 := HS.out.bk.at_ 8 _ rfl
  have f8 := HS.out.bk.free 8
  have z9 := HS.out.bk.at_ 9 _ rfl
  have f9 := HS.out.bk.free 9
  go_wp2_with fail
  have hsn : JS b B0 w0 g6 g7 (jobC ⟨p1,p2,t1,t2,r1,r2,u1,u2,d1,d2,0,0,0,0,0,wi,me,[]⟩ (.slice none 0 0)) _ := ((((HS.out.put 6 (.int .i64 u1)).put 7 (.int .i64 u2)).put 8 (.int .i64 d1)).put 9 (.int .i64 d2))
  exact jopart6 (wi := wi) (me := me) (p1 := p1) (p2 := p2) (t1 := t1) (t2 := t2) (r1 := r1) (r2 := r2) (u1 := u1) (u2 := u2) (d1 := d1) (d2 := d2) hwd hlo hwi hme hp ht hr (by omega) (by omega) hsn hB
set_option maxHeartbeats 1000000 in
set_option maxRecDepth 1000000 in
theorem jopart4 {w0 : World} {b B0 g6 g7 : Nat} {wide loose : Int} {w : World} {wi me p1 p2 : Int}  {u3 u4 u5 u8 u9 A0 A1 A2 A3 A4 A5 A6 A7 A8 A9 Aa Ab Ac Ad Ae Af Ag Ah Ai Aj Ak Al Am An Ao Ap Aq Ar As At Au Av Aw Ax Ay Az C0 C1 C2 C3 C4 C5 C6 C7 C8 C9 Ca Cb Cc Cd Ce Cf Cg Ch Ci Cj Ck Cl Cm Cn Co Cp Cq Cr Cs Ct Cu Cv Cw Cx Cy Cz D0 D1 : Value} (hwd : 0 ≤ wide ∧ wide ≤ 40) (hlo : 0 ≤ loose ∧ loose ≤ 40) (hwi : 1 ≤ wi ∧ wi ≤ 6) (hme : 0 ≤ me ∧ me ≤ 3) (hp : -60 ≤ p1 ∧ p1 ≤ p2 ∧ p2 ≤ 60) (hs : JS b B0 w0 g6 g7 (jobC ⟨p1,p2,0,0,0,0,0,0,0,0,0,0,0,0,0,wi,me,[]⟩ (.slice none 0 0)) w) (hB : B0 = w0.heap.size) : Code.wp Tryz.prog jorest4 (QJO b w0) ⟨#[(.pointer (some ⟨b,0,none⟩)),(.int .i64 wide),(.int .i64 loose),u3,u4,u5,(.pointer (some ⟨g6,0,none⟩)),(.pointer (some ⟨g7,0,none⟩)),u8,u9,A0,A1,A2,A3,A4,A5,A6,A7,A8,A9,Aa,Ab,Ac,Ad,Ae,Af,Ag,Ah,Ai,Aj,Ak,Al,Am,An,Ao,Ap,Aq,Ar,As,At,Au,Av,Aw,Ax,Ay,Az,C0,C1,C2,C3,C4,C5,C6,C7,C8,C9,Ca,Cb,Cc,Cd,Ce,Cf,Cg,Ch,Ci,Cj,Ck,Cl,Cm,Cn,Co,Cp,Cq,Cr,Cs,Ct,Cu,Cv,Cw,Cx,Cy,Cz,D0,D1],[]⟩ w := by
  rw [jorest4_eq]
  have HS := hidMk hs
  clear hs
  go_wp2_with fail
  refine (withinP b (20) 40 _ HS.out.pt (by omega)).mono ?_
  rintro e w_ ⟨a1,rfl,qa1,hk,hp⟩
  have HS' := hidMk (HS.out.pot hk hp)
  clear HS hk hp
  have HS := HS'
  clear HS'
  go_wp2_with fail
  refine (nearP b a1 (0) 100 2 _ HS.out.pt (by omega) (by omega)).mono ?_
  rintro e w_ ⟨t1,t2,rfl,qt1,hk,hp⟩
  have HS' := hidMk (HS.out.pot hk hp)
  clear HS hk hp
  have HS := HS'
  clear HS'
  go_wp2_with fail
  refine (withinP b (20) 40 _ HS.out.pt (by omega)).mono ?_
  rintro e w_ ⟨a2,rfl,qa2,hk,hp⟩
  have HS' := hidMk (HS.out.pot hk hp)
  clear HS hk hp
  have HS := HS'
  clear HS'
  go_wp2_with fail
  refine (nearP b a2 (0) 100 2 _ HS.out.pt (by omega) (by omega)).mono ?_
  rintro e w_ ⟨r1,r2,rfl,qr1,hk,hp⟩
  have HS' := hidMk (HS.out.pot hk hp)
  clear HS hk hp
  have HS := HS'
  clear HS'
  have z2 := HS.out.bk.at_ 2 _ rfl
  have f2 := HS.out.bk.free 2
  have z3 := HS.out.bk.at_ 3 _ rfl
  have f3 := HS.out.bk.free 3
  have z4 := HS.out.bk.at_ 4 _ rfl
  have f4 := HS.out.bk.free 4
  have z5 := HS.out.bk.at_ 5 _ rfl
  have f5 := HS.out.bk.free 5
  go_wp2_with fail
  have hsn : JS b B0 w0 g6 g7 (jobC ⟨p1,p2,t1,t2,r1,r2,0,0,0,0,0,0,0,0,0,wi,me,[]⟩ (.slice none 0 0)) _ := ((((HS.out.put 2 (.int .i64 t1)).put 3 (.int .i64 t2)).put 4 (.int .i64 r1)).put 5 (.int .i64 r2))
  exact jopart5 (wi := wi) (me := me) (p1 := p1) (p2 := p2) (t1 := t1) (t2 := t2) (r1 := r1) (r2 := r2) hwd hlo hwi hme hp (by omega) (by omega) hsn hB
set_option maxHeartbeats 1000000 in
set_option maxRecDepth 1000000 in
theorem jopart3 {w0 : World} {b B0 g6 g7 : Nat} {wide loose : Int} {w : World} {wi me : Int} {n : Int} {u3 u4 u5 u9 A0 A1 A2 A3 A4 A5 A6 A7 A8 A9 Aa Ab Ac Ad Ae Af Ag Ah Ai Aj Ak Al Am An Ao Ap Aq Ar As At Au Av Aw Ax Ay Az C0 C1 C2 C3 C4 C5 C6 C7 C8 C9 Ca Cb Cc Cd Ce Cf Cg Ch Ci Cj Ck Cl Cm Cn Co Cp Cq Cr Cs Ct Cu Cv Cw Cx Cy Cz D0 D1 : Value} (hwd : 0 ≤ wide ∧ wide ≤ 40) (hlo : 0 ≤ loose ∧ loose ≤ 40) (hwi : 1 ≤ wi ∧ wi ≤ 6) (hme : 0 ≤ me ∧ me ≤ 3) (hs : JS b B0 w0 g6 g7 (jobC ⟨0,0,0,0,0,0,0,0,0,0,0,0,0,0,0,wi,me,[]⟩ (.slice none 0 0)) w) (hn : -16 ≤ n ∧ n ≤ 16) (hB : B0 = w0.heap.size) : Code.wp Tryz.prog jorest3 (QJO b w0) ⟨#[(.pointer (some ⟨b,0,none⟩)),(.int .i64 wide),(.int .i64 loose),u3,u4,u5,(.pointer (some ⟨g6,0,none⟩)),(.pointer (some ⟨g7,0,none⟩)),(.int .i64 n),u9,A0,A1,A2,A3,A4,A5,A6,A7,A8,A9,Aa,Ab,Ac,Ad,Ae,Af,Ag,Ah,Ai,Aj,Ak,Al,Am,An,Ao,Ap,Aq,Ar,As,At,Au,Av,Aw,Ax,Ay,Az,C0,C1,C2,C3,C4,C5,C6,C7,C8,C9,Ca,Cb,Cc,Cd,Ce,Cf,Cg,Ch,Ci,Cj,Ck,Cl,Cm,Cn,Co,Cp,Cq,Cr,Cs,Ct,Cu,Cv,Cw,Cx,Cy,Cz,D0,D1],[]⟩ w := by
  rw [jorest3_eq]
  have HS := hidMk hs
  clear hs
  go_wp2_with fail
  refine (nearP b n (-60) 60 wide _ HS.out.pt (by omega) (by omega)).mono ?_
  rintro e w_ ⟨p1,p2,rfl,qp1,hk,hp⟩
  have HS' := hidMk (HS.out.pot hk hp)
  clear HS hk hp
  have HS := HS'
  clear HS'
  have z0 := HS.out.bk.at_ 0 _ rfl
  have f0 := HS.out.bk.free 0
  have z1 := HS.out.bk.at_ 1 _ rfl
  have f1 := HS.out.bk.free 1
  go_wp2_with fail
  have hsn : JS b B0 w0 g6 g7 (jobC ⟨p1,p2,0,0,0,0,0,0,0,0,0,0,0,0,0,wi,me,[]⟩ (.slice none 0 0)) _ := ((HS.out.put 0 (.int .i64 p1)).put 1 (.int .i64 p2))
  exact jopart4 (wi := wi) (me := me) (p1 := p1) (p2 := p2) hwd hlo hwi hme (by omega) hsn hB
end Go.Proofs.YtljefjngmembkaaGreatDoor
namespace Go.Proofs.YtljefjngmembkaaGreatDoor
set_option linter.all false
open Go.RowKit
set_option maxHeartbeats 1000000 in
set_option maxRecDepth 1000000 in
theorem jobOf_hand (wide loose : Int) (hwd : 0 ≤ wide ∧ wide ≤ 40) (hlo : 0 ≤ loose ∧ loose ≤ 40) : JobOKq wide loose := by
  intro b w hp
  have hlt := hp.lt
  have k0 : PB b w.heap.size w (w.alloc (.cells (jobC ⟨0,0,0,0,0,0,0,0,0,0,0,0,0,0,0,0,0,[]⟩ (.slice none 0 0)) 30)) := (PB.refl _ _ _).alloc (Nat.le_refl _) _
  have p0 := hp.alloc (.cells (jobC ⟨0,0,0,0,0,0,0,0,0,0,0,0,0,0,0,0,0,[]⟩ (.slice none 0 0)) 30)
  have b0 : Bk (w.alloc (.cells (jobC ⟨0,0,0,0,0,0,0,0,0,0,0,0,0,0,0,0,0,[]⟩ (.slice none 0 0)) 30)) w.heap.size 30 (jobC ⟨0,0,0,0,0,0,0,0,0,0,0,0,0,0,0,0,0,[]⟩ (.slice none 0 0)) := Bk.new _ _ _
  have hgb : w.heap.size ≠ b := by omega
  have H0 := hidMk (And.intro k0 (And.intro p0 b0))
  clear k0 p0 b0 hp
  go_enter Tryz.func6,Tryz.ntmps6
  show Code.wp Tryz.prog jobody (QJO b w) _ _
  rw [jobody_eq]
  go_wp2_with fail
  rw [jorest1_eq]
  go_wp2_with fail
  refine (withinP b 1 6 _ H0.out.2.1 (by omega)).mono ?_
  rintro e w1 ⟨wi,rfl,hwi,hk1,hp1⟩
  have H1 := hidMk (show PB b w.heap.size w w1 ∧ Bk w1 w.heap.size 30 (jobC ⟨0,0,0,0,0,0,0,0,0,0,0,0,0,0,0,0,0,[]⟩ (.slice none 0 0)) ∧ Pt w1 b from ⟨H0.out.1.trans hk1 H0.out.1.size,H0.out.2.2.pb hk1 H0.out.2.2.lt hgb,hp1⟩)
  clear H0 hk1 hp1
  go_wp2_with fail
  refine (uptoP b 3 _ H1.out.2.2 (by omega)).mono ?_
  rintro e w2 ⟨m0,rfl,hm0,hk2,hp2⟩
  have H2 := hidMk (show PB b w.heap.size w w2 ∧ Bk w2 w.heap.size 30 (jobC ⟨0,0,0,0,0,0,0,0,0,0,0,0,0,0,0,0,0,[]⟩ (.slice none 0 0)) ∧ Pt w2 b from ⟨H1.out.1.trans hk2 H1.out.1.size,H1.out.2.1.pb hk2 H1.out.2.1.lt hgb,hp2⟩)
  clear H1 hk2 hp2
  go_wp2_with fail
  have hlb := H2.out.2.2.lt
  refine (of3P b w2.heap.size 0 1 m0 3 _ (H2.out.2.2.alloc _) (by omega) (Bk.new _ _ _)).mono ?_
  rintro e w3 ⟨me,rfl,hme,hk3,hp3⟩
  have hme' : 0 ≤ me ∧ me ≤ 3 := by rcases hme with h | h | h <;> omega
  have q2 := H2.out.1.alloc H2.out.1.size (.cells #[.int .i64 0,.int .i64 1,.int .i64 m0] 3)
  have H3 := hidMk (show PB b w.heap.size w w3 ∧ Bk w3 w.heap.size 30 (jobC ⟨0,0,0,0,0,0,0,0,0,0,0,0,0,0,0,0,0,[]⟩ (.slice none 0 0)) ∧ Pt w3 b from ⟨q2.trans hk3 q2.size,(H2.out.2.1.alloc _).pb hk3 (by have := H2.out.2.1.lt; simp; omega) hgb,hp3⟩)
  clear H2 hk3 hp3 hme q2
  go_wp2_with (first | (refine wpList_store_row rfl 30 _ _ rfl w3.heap.size (jobC ⟨0,0,0,0,0,0,0,0,0,0,0,0,0,0,0,wi,me,[]⟩ (.slice none 0 0)) rfl rfl _ _ (Bk.new _ _ _) szJob rfl (oneJob _ _ _ _) ?_; rw [World.setRow_alloc_new]))
  have hl3 := H3.out.2.1.lt
  have hlp := H3.out.2.2.lt
  have hjs : JS b w.heap.size w w.heap.size w3.heap.size (jobC ⟨0,0,0,0,0,0,0,0,0,0,0,0,0,0,0,wi,me,[]⟩ (.slice none 0 0)) (w3.alloc (.cells (jobC ⟨0,0,0,0,0,0,0,0,0,0,0,0,0,0,0,wi,me,[]⟩ (.slice none 0 0)) 30)) :=
    ⟨Bk.new _ _ _,⟨_,H3.out.2.1.alloc _,rfl⟩,H3.out.2.2.alloc _,H3.out.1.alloc H3.out.1.size _,hgb,by omega,by omega,Nat.le_refl _,by omega,by simp; omega⟩
  have HS := hidMk hjs
  clear hjs H3
  generalize hG7 : w3.heap.size = g7 at HS ⊢
  generalize hW3 : (w3.alloc (.cells (jobC ⟨0,0,0,0,0,0,0,0,0,0,0,0,0,0,0,wi,me,[]⟩ (.slice none 0 0)) 30)) = w4 at HS ⊢
  rw [jorest2_eq]
  go_wp2_with fail
  refine (withinP b (-16) 16 _ HS.out.pt (by omega)).mono ?_
  rintro e w5 ⟨n,rfl,hn,hk,hp⟩
  have HS' := hidMk (HS.out.pot hk hp)
  clear HS hk hp
  go_wp2_with fail
  exact jopart3 (wi := wi) (me := me) hwd hlo hwi hme' HS'.out hn rfl
end Go.Proofs.YtljefjngmembkaaGreatDoor
namespace Go.Proofs.YtljefjngmembkaaGreatDoor
set_option linter.all false
open Go.RowKit
section
variable {P : Program} {ops : Array Oper} {Q : Exit → Act → World → Prop} {a : Act} {w : World} {i : Nat} {rest : List Nat} {o : Oper}
theorem wp_region_l {id : Nat} (l : List Nat) (hl : List.range ops.size = l) (h : wpOps P ops Q l a w) : (Code.region id ops false).wp P Q a w := wp_region (by rw [hl]; exact h)
theorem opsL_take {v : Value} (ho : ops[i]? = some o) (hw : Region.wanted o (yielded ops a.tmps) = true) (hv : (execOp a.eval o).run P w = .ok (.value v) w) (h : wpOps P ops Q rest (a.put o.dst v) w) : wpOps P ops Q (i :: rest) a w := by
  simp only [wpOps,ho,hw,if_true]
  exact .inl (by simp only [Oper.wp,hv,Oper.upon]; exact h)
theorem opsL_step (ho : ops[i]? = some o) (h : ∀ K' : Act → World → Prop,Shut (∀ a w,wpOps P ops Q rest a w → K' a w) → if Region.wanted o (yielded ops a.tmps) = true then Oper.wp P o a w K' Q else K' (a.put o.dst undef) w) : wpOps P ops Q (i :: rest) a w := by
  have := h (wpOps P ops Q rest) (fun _ _ h => h)
  simp only [wpOps,ho]
  split
  · rename_i hw
    rw [if_pos hw] at this
    exact .inl this
  · rename_i hw
    rw [if_neg hw] at this
    exact this
end
end Go.Proofs.YtljefjngmembkaaGreatDoor
