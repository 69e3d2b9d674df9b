/- Part 26 of the proof: RtI. -/
import Derived.Test.YtljefjngmembkaaGreatDoorT25
namespace Go.Proofs.YtljefjngmembkaaGreatDoor
set_option linter.all false
open Go.RowKit Go.Lib
set_option maxHeartbeats 2000000 in
set_option maxRecDepth 1000000 in
theorem at_any (q len cp k : Nat) (x y : Int) (w : World) (hk : k + 1 < len) (hl : len ≤ 1000) (hq : q < w.heap.size) (hx : w.cell? ⟨q,k,none⟩ = some (.int .i64 x)) (hy : w.cell? ⟨q,k + 1,none⟩ = some (.int .i64 y)) :
    Calls Tryz.prog 38 #[.slice (some ⟨q,0,none⟩) len cp,.int .i64 k] w fun e w' => e = .returned (.agg #[.int .i64 x,.int .i64 y]) ∧ Below w.heap.size w w' := by
  have hk1 : k < len := by omega
  have hk0 : (0 : Int) ≤ (k : Int) + 1 := by omega
  have hk2 : (k : Int) + 1 < (len : Int) := by omega
  have wk : IntKind.i64.wrap ((k : Int) + 1) = (k : Int) + 1 := IntWalk.i64_in _ (by omega)
  have hb0 := below0 w (.cells #[.int .i64 0,.int .i64 0] 23)
  have hS : (fun w' => w'.cell? ⟨q,k,none⟩ = some (.int .i64 x) ∧ w'.cell? ⟨q,k + 1,none⟩ = some (.int .i64 y)) (w.alloc (.cells #[.int .i64 0,.int .i64 0] 23)) := ⟨(hb0.cell (p := ⟨q,k,none⟩) hq).trans hx,(hb0.cell (p := ⟨q,k + 1,none⟩) hq).trans hy⟩
  have hB := Bk.new w 23 #[.int .i64 0,.int .i64 0]
  have hW := hb0
  obtain ⟨g,hg⟩ : ∃ g,g = w.heap.size := ⟨_,rfl⟩
  rw [← hg] at hB
  have hqg : g ≠ q := by omega
  have hgw : w.heap.size ≤ g := by omega
  clear hb0 hx hy
  go_enter Tryz.func38,Tryz.ntmps38
  go_wp2_with fail
  rw [← hg]
  clear hg
  refine region_via (R := fun a_ e_ a' w' => e_ = .normal ∧ ∃ (v5 v6 v7 v8 v9 v10 v11 v12 v13 v14 : Value),a' = ((((((((((a_.put (some 5) v5).put (some 6) v6).put (some 7) v7).put (some 8) v8).put (some 9) v9).put (some 10) v10).put (some 11) v11).put (some 12) v12).put (some 13) v13).put (some 14) v14) ∧ Bk w' g 23 #[.int .i64 x,.int .i64 y] ∧ Below w.heap.size w w') ?_ ?_
  rotate_left
  · rintro e_ a' w' ⟨rfl,v5,v6,v7,v8,v9,v10,v11,v12,v13,v14,rfl,h1,h2⟩
    simp only [Act.put,aT,aZ,aS]
    have HB' := hidMk h1
    have HW' := hidMk h2
    clear h1 h2 hB hW hS
    go_wp2_with fail
    refine bodyPost_ret (results_cell_row Tryz.results38 _ _ _ _ _ _ _ rfl HB'.out Tryz.underlying23 rfl szRange) rfl ⟨rfl,HW'.out⟩
  have hS' : (fun w' => w'.cell? ⟨q,k,none⟩ = some (.int .i64 x) ∧ w'.cell? ⟨q,k + 1,none⟩ = some (.int .i64 y)) (World.drew (w.alloc (.cells #[.int .i64 0,.int .i64 0] 23))) := hS
  have hB' : Bk (World.drew (w.alloc (.cells #[.int .i64 0,.int .i64 0] 23))) g 23 #[.int .i64 0,.int .i64 0] := hB
  have hW' : Below w.heap.size w (World.drew (w.alloc (.cells #[.int .i64 0,.int .i64 0] 23))) := hW.drew
  clear hS hB hW
  have hS := hS'
  have hB := hB'
  have hW := hW'
  clear hS' hB' hW'
  refine wp_region_held_drew (S := (fun w' => w'.cell? ⟨q,k,none⟩ = some (.int .i64 x) ∧ w'.cell? ⟨q,k + 1,none⟩ = some (.int .i64 y))) (by kernel_rfl) hS (fun hS0 => ?_)
  clear hS0
  generalize World.drew _ = wd at hS hB hW ⊢
  refine wT (i := 0) (v := ?_) rfl (.inl ⟨by rfl,?_⟩) ?_
  rotate_left
  · (intro w' hSw; (try dsimp only at hSw); go_simp <;> with_reducible rfl)
  (try simp only [Act.put,aT,aZ,aS])
  refine wT (i := 1) (v := ?_) rfl (.inl ⟨by rfl,?_⟩) ?_
  rotate_left
  · (intro w' hSw; (try dsimp only at hSw); go_simp <;> with_reducible rfl)
  (try simp only [Act.put,aT,aZ,aS])
  refine wT (i := 2) (v := ?_) rfl (.inl ⟨by rfl,?_⟩) ?_
  rotate_left
  · (intro w' hSw; (try dsimp only at hSw); (have z1 := hk1); go_simp <;> with_reducible rfl)
  (try simp only [Act.put,aT,aZ,aS])
  refine wT (i := 3) (v := ?_) rfl (.inl ⟨by rfl,?_⟩) ?_
  rotate_left
  · (intro w' hSw; (try dsimp only at hSw); have c0 := hSw.1; go_simp <;> with_reducible rfl)
  (try simp only [Act.put,aT,aZ,aS])
  refine wT (i := 4) (v := ?_) rfl (.inl ⟨by rfl,?_⟩) ?_
  rotate_left
  · (intro w' hSw; (try dsimp only at hSw); go_simp <;> with_reducible rfl)
  (try simp only [Act.put,aT,aZ,aS])
  refine wT (i := 5) (v := ?_) rfl (.inl ⟨by rfl,?_⟩) ?_
  rotate_left
  · (intro w' hSw; (try dsimp only at hSw); go_simp <;> with_reducible rfl)
  (try simp only [Act.put,aT,aZ,aS])
  refine wT (i := 6) (v := ?_) rfl (.inl ⟨by rfl,?_⟩) ?_
  rotate_left
  · (intro w' hSw; (try dsimp only at hSw); have z1 := wk; go_simp <;> with_reducible rfl)
  (try simp only [Act.put,aT,aZ,aS])
  refine wT (i := 7) (v := ?_) rfl (.inl ⟨by rfl,?_⟩) ?_
  rotate_left
  · (intro w' hSw; (try dsimp only at hSw); (have z1 := hk2; have z0 := hk0); go_simp <;> with_reducible rfl)
  (try simp only [Act.put,aT,aZ,aS])
  refine wT (i := 8) (v := ?_) rfl (.inl ⟨by rfl,?_⟩) ?_
  rotate_left
  · (intro w' hSw; (try dsimp only at hSw); have c1 := hSw.2; go_simp <;> with_reducible rfl)
  (try simp only [Act.put,aT,aZ,aS])
  refine wT (i := 9) (v := ?_) rfl (.inl ⟨by rfl,?_⟩) ?_
  rotate_left
  · (intro w' hSw; (try dsimp only at hSw); go_simp <;> with_reducible rfl)
  (try simp only [Act.put,aT,aZ,aS])
  refine wpAnyH_ready (rs := [10]) (by kernel_rfl) (by simp) ?_
  refine AllReadyH.cons rfl (fun K hK => ?_) ?_
  · have z0 := hB.at_ 0 _ rfl
    have z1 := hB.at_ 1 _ rfl
    have f0 := hB.free 0
    have f1 := hB.free 1
    go_simp
    have hS_ : (fun w' => w'.cell? ⟨q,k,none⟩ = some (.int .i64 x) ∧ w'.cell? ⟨q,k + 1,none⟩ = some (.int .i64 y)) ((wd.setCell ⟨g,0,none⟩ (.int .i64 x)).setCell ⟨g,1,none⟩ (.int .i64 y)) := ⟨(cell_other _ g 1 q k _ hqg).trans ((cell_other _ g 0 q k _ hqg).trans hS.1),(cell_other _ g 1 q (k + 1) _ hqg).trans ((cell_other _ g 0 q (k + 1) _ hqg).trans hS.2)⟩
    refine hK.out _ _ hS_ (fun _ => ?_)
    have hB_ := hB.put2 (.int .i64 x) (.int .i64 y)
    have hW_ := (hW.setCell (p := ⟨g,0,none⟩) hgw (.int .i64 x)).setCell (p := ⟨g,1,none⟩) hgw (.int .i64 y)
    clear z0 z1 f0 f1 hB hW
    clear hK K
    (try simp only [Act.put,aT,aZ,aS])
    refine wpAnyH_done (by kernel_rfl) ?_ _
    exact ⟨rfl,_,_,_,_,_,_,_,_,_,_,rfl,hB_,hW_⟩
  exact AllReadyH.nil
section
variable {g Bs : Nat} {w0 w : World} {J : Jb} {sv : Value}
theorem PJ.cell1 (h : PJ g Bs w0 J sv w) (i : Nat) (u : Value) {J' : Jb} (hs : J'.sh = J.sh) (he : (jobC J sv).setIfInBounds i u = jobC J' sv) : PJ g Bs w0 J' sv (w.setCell ⟨g,i,none⟩ u) :=
  h.of hs (he ▸ h.bk.put i u) ((PB.refl g w.heap.size w).put1 i u)
theorem PJ.cell2 (h : PJ g Bs w0 J sv w) (i : Nat) (u v : Value) {J' : Jb} (hs : J'.sh = J.sh) (he : ((jobC J sv).setIfInBounds i u).setIfInBounds (i + 1) v = jobC J' sv) : PJ g Bs w0 J' sv ((w.setCell ⟨g,i,none⟩ u).setCell ⟨g,i + 1,none⟩ v) :=
  h.of hs (he ▸ (h.bk.put i u).put (i + 1) v) (((PB.refl g w.heap.size w).put1 i u).put1 (i + 1) v)
end
set_option maxHeartbeats 2000000 in
set_option maxRecDepth 1000000 in
theorem rd16 {g Bs q cp : Nat} {x0 x1 : Int} {w1 w : World} {J : Jb} {sv : Value} {Q : Exit → Act → World → Prop} {u0 u1 u2 u3 u4 u5 u7 u8 u9 A1 A2 A3 A4 A5 A6 A7 A8 A9 Aa Ab Ac Ad Ae Af Ag Ah Ai Aj Ak Al Am An Ao Ap Aq Ar As At Au Av Aw Ax Ay Az C0 C1 C2 C3 C4 C5 C6 C7 C8 C9 Ca Cb Cc Cd Ce Cf Cg Ch Ci Cj Ck Cl Cm Cn Co Cp Cq Cr Cs Ct Cu Cv Cw Cx Cy Cz D0 D1 D2 D3 D4 D5 D6 D7 D8 D9 Da Db Dc Dd De Df Dg Dh Di Dj Dk Dl Dm Dn Do Dp Dq Dr Ds Dt Du Dv Dw Dx Dy Dz E0 E1 E2 E3 E4 E5 E6 E7 E8 E9 Ea Eb Ec Ed Ee Ef Eg Eh Ei Ej Ek El Em En Eo : Value} (hJ : PJ g Bs w1 J sv w) (hq : Bs ≤ q ∧ q < w.heap.size) (hc : w.cell? ⟨q,0,none⟩ = some (.int .i64 x0) ∧ w.cell? ⟨q,1,none⟩ = some (.int .i64 x1)) (hK : ∀ w' : World,PJ g Bs w1 { J with wi := x0,me := x1 } sv w' → ∀ (v50 v51 v52 v53 v54 v55 v56 v57 : Value),Q .normal ⟨#[u0,u1,u2,u3,u4,u5,(.pointer (some ⟨g,0,none⟩)),u7,u8,u9,(.slice (some ⟨q,0,none⟩) 2 cp),A1,A2,A3,A4,A5,A6,A7,A8,A9,Aa,Ab,Ac,Ad,Ae,Af,Ag,Ah,Ai,Aj,Ak,Al,Am,An,Ao,Ap,Aq,Ar,As,At,Au,Av,Aw,Ax,Ay,Az,C0,C1,C2,C3,v50,v51,v52,v53,v54,v55,v56,v57,Cc,Cd,Ce,Cf,Cg,Ch,Ci,Cj,Ck,Cl,Cm,Cn,Co,Cp,Cq,Cr,Cs,Ct,Cu,Cv,Cw,Cx,Cy,Cz,D0,D1,D2,D3,D4,D5,D6,D7,D8,D9,Da,Db,Dc,Dd,De,Df,Dg,Dh,Di,Dj,Dk,Dl,Dm,Dn,Do,Dp,Dq,Dr,Ds,Dt,Du,Dv,Dw,Dx,Dy,Dz,E0,E1,E2,E3,E4,E5,E6,E7,E8,E9,Ea,Eb,Ec,Ed,Ee,Ef,Eg,Eh,Ei,Ej,Ek,El,Em,En,Eo],[]⟩ w') : Code.wp Tryz.prog (Code.region 16 #[⟨some 50,.move (.tmp 10),31,"text.go:108",#[],none⟩,⟨some 51,.indexAddr 31 (.tmp 50) (.const (.int .i64 0)),0,"text.go:108",#[⟨0,.data⟩],none⟩,⟨some 52,.load 3 (.tmp 51),3,"text.go:108",#[⟨1,.data⟩],none⟩,⟨some 53,.move (.tmp 10),31,"text.go:108",#[⟨7,.gcOnly .lateStores⟩],none⟩,⟨some 54,.indexAddr 31 (.tmp 53) (.const (.int .i64 1)),0,"text.go:108",#[⟨3,.data⟩,⟨7,.gcOnly .lateStores⟩],none⟩,⟨some 55,.load 3 (.tmp 54),3,"text.go:108",#[⟨4,.data⟩,⟨7,.gcOnly .lateStores⟩],none⟩,⟨some 56,.fieldAddr 30 (.tmp 6) 3,0,"text.go:108",#[⟨0,.phase⟩,⟨1,.phase⟩,⟨2,.phase⟩,⟨3,.textOnly .lateStores⟩,⟨4,.textOnly .lateStores⟩,⟨5,.textOnly .lateStores⟩],none⟩,⟨none,.store 3 (.tmp 56) (.tmp 52),0,"text.go:108",#[⟨6,.data⟩,⟨2,.data⟩,⟨0,.phase⟩,⟨1,.phase⟩,⟨2,.phase⟩,⟨3,.textOnly .lateStores⟩,⟨4,.textOnly .lateStores⟩,⟨5,.textOnly .lateStores⟩],none⟩,⟨some 57,.fieldAddr 30 (.tmp 6) 4,0,"text.go:108",#[⟨0,.phase⟩,⟨1,.phase⟩,⟨2,.phase⟩,⟨3,.phase⟩,⟨4,.phase⟩,⟨5,.phase⟩,⟨6,.phase⟩,⟨7,.phase⟩],none⟩,⟨none,.store 3 (.tmp 57) (.tmp 55),0,"text.go:108",#[⟨8,.data⟩,⟨5,.data⟩,⟨7,.chain⟩,⟨0,.phase⟩,⟨1,.phase⟩,⟨2,.phase⟩,⟨3,.phase⟩,⟨4,.phase⟩,⟨5,.phase⟩,⟨6,.phase⟩,⟨7,.phase⟩],none⟩] true) Q ⟨#[u0,u1,u2,u3,u4,u5,(.pointer (some ⟨g,0,none⟩)),u7,u8,u9,(.slice (some ⟨q,0,none⟩) 2 cp),A1,A2,A3,A4,A5,A6,A7,A8,A9,Aa,Ab,Ac,Ad,Ae,Af,Ag,Ah,Ai,Aj,Ak,Al,Am,An,Ao,Ap,Aq,Ar,As,At,Au,Av,Aw,Ax,Ay,Az,C0,C1,C2,C3,C4,C5,C6,C7,C8,C9,Ca,Cb,Cc,Cd,Ce,Cf,Cg,Ch,Ci,Cj,Ck,Cl,Cm,Cn,Co,Cp,Cq,Cr,Cs,Ct,Cu,Cv,Cw,Cx,Cy,Cz,D0,D1,D2,D3,D4,D5,D6,D7,D8,D9,Da,Db,Dc,Dd,De,Df,Dg,Dh,Di,Dj,Dk,Dl,Dm,Dn,Do,Dp,Dq,Dr,Ds,Dt,Du,Dv,Dw,Dx,Dy,Dz,E0,E1,E2,E3,E4,E5,E6,E7,E8,E9,Ea,Eb,Ec,Ed,Ee,Ef,Eg,Eh,Ei,Ej,Ek,El,Em,En,Eo],[]⟩ w := by
  have HK := hidMk hK
  clear hK
  have hgq : g ≠ q := by have := hJ.lt; omega
  refine region_via (R := fun a_ e_ a' w' => e_ = .normal ∧ ∃ (v50 v51 v52 v53 v54 v55 v56 v57 : Value),a' = ((((((((a_.put (some 50) v50).put (some 51) v51).put (some 52) v52).put (some 53) v53).put (some 54) v54).put (some 55) v55).put (some 56) v56).put (some 57) v57) ∧ PJ g Bs w1 { J with wi := x0,me := x1 } sv w') ?_ ?_
  rotate_left
  · rintro e_ a' w' ⟨rfl,v50,v51,v52,v53,v54,v55,v56,v57,rfl,h1⟩
    simp only [Act.put,aT,aZ,aS]
    exact HK.out _ h1 _ _ _ _ _ _ _ _ 
  have hJ_ : PJ g Bs w1 J sv w.drew := hJ.drew
  have hC : w.drew.cell? ⟨q,0,none⟩ = some (.int .i64 x0) ∧ w.drew.cell? ⟨q,1,none⟩ = some (.int .i64 x1) := hc
  have hq_ : Bs ≤ q ∧ q < w.drew.heap.size := hq
  clear hJ hc hq
  have hJ := hJ_
  have hq := hq_
  clear hJ_ hq_
  refine wp_region_held_drew (S := (fun w' => w'.cell? ⟨q,0,none⟩ = some (.int .i64 x0) ∧ w'.cell? ⟨q,1,none⟩ = some (.int .i64 x1))) (by kernel_rfl) hC (fun hS0 => ?_)
  clear hS0
  generalize w.drew = wd at hJ hC hq ⊢
  refine wT (i := 0) (v := ?_) rfl (.inl ⟨by rfl,?_⟩) ?_
  rotate_left
  · (intro w' hSw; (try dsimp only at hSw); go_simp <;> with_reducible rfl)
  (try simp only [Act.put,aT,aZ,aS])
  refine wT (i := 1) (v := ?_) rfl (.inl ⟨by rfl,?_⟩) ?_
  rotate_left
  · (intro w' hSw; (try dsimp only at hSw); go_simp <;> with_reducible rfl)
  (try simp only [Act.put,aT,aZ,aS])
  refine wT (i := 2) (v := ?_) rfl (.inl ⟨by rfl,?_⟩) ?_
  rotate_left
  · (intro w' hSw; (try dsimp only at hSw); have q0 := hSw.1; go_simp <;> with_reducible rfl)
  (try simp only [Act.put,aT,aZ,aS])
  refine wT (i := 3) (v := ?_) rfl (.inl ⟨by rfl,?_⟩) ?_
  rotate_left
  · (intro w' hSw; (try dsimp only at hSw); go_simp <;> with_reducible rfl)
  (try simp only [Act.put,aT,aZ,aS])
  refine wT (i := 4) (v := ?_) rfl (.inl ⟨by rfl,?_⟩) ?_
  rotate_left
  · (intro w' hSw; (try dsimp only at hSw); go_simp <;> with_reducible rfl)
  (try simp only [Act.put,aT,aZ,aS])
  refine wT (i := 5) (v := ?_) rfl (.inl ⟨by rfl,?_⟩) ?_
  rotate_left
  · (intro w' hSw; (try dsimp only at hSw); have q1 := hSw.2; go_simp <;> with_reducible rfl)
  (try simp only [Act.put,aT,aZ,aS])
  refine wT (i := 6) (v := ?_) rfl (.inl ⟨by rfl,?_⟩) ?_
  rotate_left
  · (intro w' hSw; (try dsimp only at hSw); go_simp <;> with_reducible rfl)
  (try simp only [Act.put,aT,aZ,aS])
  refine wpAnyH_ready (rs := [7]) (by kernel_rfl) (by simp) ?_
  refine AllReadyH.cons rfl (fun K hK => ?_) ?_
  · have z0 := hJ.bk.at_ 16 _ rfl
    have f0 := hJ.bk.free 16
    go_simp
    have hC_ : (wd.setCell ⟨g,16,none⟩ (.int .i64 x0)).cell? ⟨q,0,none⟩ = some (.int .i64 x0) ∧ (wd.setCell ⟨g,16,none⟩ (.int .i64 x0)).cell? ⟨q,1,none⟩ = some (.int .i64 x1) := ⟨(cell_other _ g 16 q 0 _ hgq).trans (hC.1),(cell_other _ g 16 q 1 _ hgq).trans (hC.2)⟩
    have hJ_ : PJ g Bs w1 { J with wi := x0 } sv (wd.setCell ⟨g,16,none⟩ (.int .i64 x0)) := (hJ.cell1 16 (.int .i64 x0) rfl (J' := { J with wi := x0 }) rfl)
    refine hK.out _ _ hC_ (fun _ => ?_)
    clear z0 f0 hJ hC
    have hJ := hJ_
    have hC := hC_
    clear hJ_ hC_
    have hq_ : Bs ≤ q ∧ q < (wd.setCell ⟨g,16,none⟩ (.int .i64 x0)).heap.size := ⟨hq.1,by have := hq.2; simpa using this⟩
    clear hq
    have hq := hq_
    clear hq_
    generalize (wd.setCell ⟨g,16,none⟩ (.int .i64 x0)) = ws16 at hJ hC hq ⊢
    clear hK K
    (try simp only [Act.put,aT,aZ,aS])
    refine wT (i := 8) (v := ?_) rfl (.inl ⟨by rfl,?_⟩) ?_
    rotate_left
    · (intro w' hSw; (try dsimp only at hSw); go_simp <;> with_reducible rfl)
    (try simp only [Act.put,aT,aZ,aS])
    refine wpAnyH_ready (rs := [9]) (by kernel_rfl) (by simp) ?_
    refine AllReadyH.cons rfl (fun K hK => ?_) ?_
    · have z0 := hJ.bk.at_ 17 _ rfl
      have f0 := hJ.bk.free 17
      go_simp
      have hC_ : (ws16.setCell ⟨g,17,none⟩ (.int .i64 x1)).cell? ⟨q,0,none⟩ = some (.int .i64 x0) ∧ (ws16.setCell ⟨g,17,none⟩ (.int .i64 x1)).cell? ⟨q,1,none⟩ = some (.int .i64 x1) := ⟨(cell_other _ g 17 q 0 _ hgq).trans (hC.1),(cell_other _ g 17 q 1 _ hgq).trans (hC.2)⟩
      have hJ_ : PJ g Bs w1 { J with wi := x0,me := x1 } sv (ws16.setCell ⟨g,17,none⟩ (.int .i64 x1)) := (hJ.cell1 17 (.int .i64 x1) rfl (J' := { J with wi := x0,me := x1 }) rfl)
      refine hK.out _ _ hC_ (fun _ => ?_)
      clear z0 f0 hJ hC
      have hJ := hJ_
      have hC := hC_
      clear hJ_ hC_
      have hq_ : Bs ≤ q ∧ q < (ws16.setCell ⟨g,17,none⟩ (.int .i64 x1)).heap.size := ⟨hq.1,by have := hq.2; simpa using this⟩
      clear hq
      have hq := hq_
      clear hq_
      generalize (ws16.setCell ⟨g,17,none⟩ (.int .i64 x1)) = ws17 at hJ hC hq ⊢
      clear hK K
      (try simp only [Act.put,aT,aZ,aS])
      refine wpAnyH_done (by kernel_rfl) ?_ _
      exact ⟨rfl,_,_,_,_,_,_,_,_,rfl,hJ⟩
    exact AllReadyH.nil
  exact AllReadyH.nil
set_option maxHeartbeats 2000000 in
set_option maxRecDepth 1000000 in
theorem rd26 {g Bs q cp : Nat} {x0 x1 x2 x3 x4 x5 x6 x7 x8 : Int} {w1 w : World} {J : Jb} {sv : Value} {Q : Exit → Act → World → Prop} {u0 u1 u2 u3 u4 u5 u7 u8 u9 A1 A2 A3 A4 A5 A6 A7 A8 A9 Aa Ab Ac Ad Ae Af Ag Ah Ai Aj Ak Al Am An Ao Ap Aq Ar As At Au Av Aw Ax Ay Az C0 C1 C2 C3 C4 C5 C6 C7 C8 C9 Ca Cb Cc Cd Ce Cf Cg Ch Ci Cj Ck Cl Cm Cn Co Cp Cq Cr Cs Ct Cu Cv Cw Cx Cy Cz D0 D1 D2 D3 D4 D5 D6 D7 D8 D9 Da Db Dc Dd De Df Dg Dh Di Dj Dk Dl Dm Dn Do Dp Dq Dr Ds Dt Du Dv Dw Dx Dy Dz E0 E1 E2 E3 E4 E5 E6 E7 E8 E9 Ea Eb Ec Ed Ee Ef Eg Eh Ei Ej Ek El Em En Eo : Value} (hJ : PJ g Bs w1 J sv w) (hq : Bs ≤ q ∧ q < w.heap.size) (hc : w.cell? ⟨q,0,none⟩ = some (.int .i64 x0) ∧ w.cell? ⟨q,1,none⟩ = some (.int .i64 x1) ∧ w.cell? ⟨q,2,none⟩ = some (.int .i64 x2) ∧ w.cell? ⟨q,3,none⟩ = some (.int .i64 x3) ∧ w.cell? ⟨q,4,none⟩ = some (.int .i64 x4) ∧ w.cell? ⟨q,5,none⟩ = some (.int .i64 x5) ∧ w.cell? ⟨q,6,none⟩ = some (.int .i64 x6) ∧ w.cell? ⟨q,7,none⟩ = some (.int .i64 x7) ∧ w.cell? ⟨q,8,none⟩ = some (.int .i64 x8)) (hK : ∀ w' : World,PJ g Bs w1 { J with u1 := x0,u2 := x1,d1 := x2,d2 := x3,x1 := x4,x2 := x5,y1 := x6,y2 := x7,le := x8 } sv w' → ∀ (v96 v97 v98 v99 v100 v101 v102 v103 v104 v105 v106 v107 v108 v109 v110 v111 v112 v113 v114 v115 v116 : Value),Q .normal ⟨#[u0,u1,u2,u3,u4,u5,(.pointer (some ⟨g,0,none⟩)),u7,u8,u9,(.slice (some ⟨q,0,none⟩) 9 cp),A1,A2,A3,A4,A5,A6,A7,A8,A9,Aa,Ab,Ac,Ad,Ae,Af,Ag,Ah,Ai,Aj,Ak,Al,Am,An,Ao,Ap,Aq,Ar,As,At,Au,Av,Aw,Ax,Ay,Az,C0,C1,C2,C3,C4,C5,C6,C7,C8,C9,Ca,Cb,Cc,Cd,Ce,Cf,Cg,Ch,Ci,Cj,Ck,Cl,Cm,Cn,Co,Cp,Cq,Cr,Cs,Ct,Cu,Cv,Cw,Cx,Cy,Cz,D0,D1,D2,D3,D4,D5,D6,D7,D8,D9,Da,Db,Dc,Dd,v96,v97,v98,v99,v100,v101,v102,v103,v104,v105,v106,v107,v108,v109,v110,v111,v112,v113,v114,v115,v116,Dz,E0,E1,E2,E3,E4,E5,E6,E7,E8,E9,Ea,Eb,Ec,Ed,Ee,Ef,Eg,Eh,Ei,Ej,Ek,El,Em,En,Eo],[]⟩ w') : Code.wp Tryz.prog (Code.region 26 #[⟨some 96,.move (.tmp 10),31,"text.go:102",#[],none⟩,⟨some 97,.call { callee := .value (.func 38),args := #[.tmp 96,.const (.int .i64 0)],argTypes := #[31,3] },23,"text.go:102",#[⟨0,.data⟩],none⟩,⟨some 98,.move (.tmp 10),31,"text.go:102",#[],none⟩,⟨some 99,.call { callee := .value (.func 38),args := #[.tmp 98,.const (.int .i64 2)],argTypes := #[31,3] },23,"text.go:102",#[⟨2,.data⟩,⟨1,.chain⟩],none⟩,⟨some 100,.move (.tmp 10),31,"text.go:102",#[],none⟩,⟨some 101,.call { callee := .value (.func 38),args := #[.tmp 100,.const (.int .i64 4)],argTypes := #[31,3] },23,"text.go:102",#[⟨4,.data⟩,⟨3,.chain⟩],none⟩,⟨some 102,.move (.tmp 10),31,"text.go:102",#[],none⟩,⟨some 103,.call { callee := .value (.func 38),args := #[.tmp 102,.const (.int .i64 6)],argTypes := #[31,3] },23,"text.go:102",#[⟨6,.data⟩,⟨5,.chain⟩],none⟩,⟨some 104,.move (.tmp 10),31,"text.go:102",#[⟨22,.gcOnly .lateStores⟩],none⟩,⟨some 105,.indexAddr 31 (.tmp 104) (.const (.int .i64 8)),0,"text.go:102",#[⟨8,.data⟩,⟨22,.gcOnly .lateStores⟩],none⟩,⟨some 106,.load 3 (.tmp 105),3,"text.go:102",#[⟨9,.data⟩,⟨22,.gcOnly .lateStores⟩],none⟩,⟨some 107,.fieldAddr 30 (.tmp 6) 1,0,"text.go:102",#[⟨0,.phase⟩,⟨1,.phase⟩,⟨2,.textOnly .lateStores⟩,⟨3,.textOnly .lateStoresUnsure⟩,⟨4,.textOnly .lateStores⟩,⟨5,.textOnly .lateStoresUnsure⟩,⟨6,.textOnly .lateStores⟩,⟨7,.textOnly .lateStoresUnsure⟩,⟨8,.textOnly .lateStores⟩,⟨9,.textOnly .lateStores⟩,⟨10,.textOnly .lateStores⟩],none⟩,⟨some 108,.fieldAddr 27 (.tmp 107) 0,0,"text.go:102",#[⟨11,.data⟩,⟨0,.phase⟩,⟨1,.phase⟩,⟨2,.textOnly .lateStores⟩,⟨3,.textOnly .lateStoresUnsure⟩,⟨4,.textOnly .lateStores⟩,⟨5,.textOnly .lateStoresUnsure⟩,⟨6,.textOnly .lateStores⟩,⟨7,.textOnly .lateStoresUnsure⟩,⟨8,.textOnly .lateStores⟩,⟨9,.textOnly .lateStores⟩,⟨10,.textOnly .lateStores⟩],none⟩,⟨none,.store 23 (.tmp 108) (.tmp 97),0,"text.go:102",#[⟨12,.data⟩,⟨1,.data⟩,⟨7,.chain⟩,⟨0,.phase⟩,⟨1,.phase⟩,⟨2,.textOnly .lateStores⟩,⟨3,.textOnly .lateStoresUnsure⟩,⟨4,.textOnly .lateStores⟩,⟨5,.textOnly .lateStoresUnsure⟩,⟨6,.textOnly .lateStores⟩,⟨7,.textOnly .lateStoresUnsure⟩,⟨8,.textOnly .lateStores⟩,⟨9,.textOnly .lateStores⟩,⟨10,.textOnly .lateStores⟩],none⟩,⟨some 109,.fieldAddr 30 (.tmp 6) 1,0,"text.go:102",#[⟨0,.phase⟩,⟨1,.phase⟩,⟨2,.phase⟩,⟨3,.phase⟩,⟨4,.textOnly .lateStores⟩,⟨5,.textOnly .lateStoresUnsure⟩,⟨6,.textOnly .lateStores⟩,⟨7,.textOnly .lateStoresUnsure⟩,⟨8,.textOnly .lateStores⟩,⟨9,.textOnly .lateStores⟩,⟨10,.textOnly .lateStores⟩,⟨11,.phase⟩,⟨12,.phase⟩,⟨13,.phase⟩],none⟩,⟨some 110,.fieldAddr 27 (.tmp 109) 1,0,"text.go:102",#[⟨14,.data⟩,⟨0,.phase⟩,⟨1,.phase⟩,⟨2,.phase⟩,⟨3,.phase⟩,⟨4,.textOnly .lateStores⟩,⟨5,.textOnly .lateStoresUnsure⟩,⟨6,.textOnly .lateStores⟩,⟨7,.textOnly .lateStoresUnsure⟩,⟨8,.textOnly .lateStores⟩,⟨9,.textOnly .lateStores⟩,⟨10,.textOnly .lateStores⟩,⟨11,.phase⟩,⟨12,.phase⟩,⟨13,.phase⟩],none⟩,⟨none,.store 23 (.tmp 110) (.tmp 99),0,"text.go:102",#[⟨15,.data⟩,⟨3,.data⟩,⟨13,.chain⟩,⟨0,.phase⟩,⟨1,.phase⟩,⟨2,.phase⟩,⟨3,.phase⟩,⟨4,.textOnly .lateStores⟩,⟨5,.textOnly .lateStoresUnsure⟩,⟨6,.textOnly .lateStores⟩,⟨7,.textOnly .lateStoresUnsure⟩,⟨8,.textOnly .lateStores⟩,⟨9,.textOnly .lateStores⟩,⟨10,.textOnly .lateStores⟩,⟨11,.phase⟩,⟨12,.phase⟩,⟨13,.phase⟩],none⟩,⟨some 111,.fieldAddr 30 (.tmp 6) 1,0,"text.go:102",#[⟨0,.phase⟩,⟨1,.phase⟩,⟨2,.phase⟩,⟨3,.phase⟩,⟨4,.phase⟩,⟨5,.phase⟩,⟨6,.textOnly .lateStores⟩,⟨7,.textOnly .lateStoresUnsure⟩,⟨8,.textOnly .lateStores⟩,⟨9,.textOnly .lateStores⟩,⟨10,.textOnly .lateStores⟩,⟨11,.phase⟩,⟨12,.phase⟩,⟨13,.phase⟩,⟨14,.phase⟩,⟨15,.phase⟩,⟨16,.phase⟩],none⟩,⟨some 112,.fieldAddr 27 (.tmp 111) 2,0,"text.go:102",#[⟨17,.data⟩,⟨0,.phase⟩,⟨1,.phase⟩,⟨2,.phase⟩,⟨3,.phase⟩,⟨4,.phase⟩,⟨5,.phase⟩,⟨6,.textOnly .lateStores⟩,⟨7,.textOnly .lateStoresUnsure⟩,⟨8,.textOnly .lateStores⟩,⟨9,.textOnly .lateStores⟩,⟨10,.textOnly .lateStores⟩,⟨11,.phase⟩,⟨12,.phase⟩,⟨13,.phase⟩,⟨14,.phase⟩,⟨15,.phase⟩,⟨16,.phase⟩],none⟩,⟨none,.store 23 (.tmp 112) (.tmp 101),0,"text.go:102",#[⟨18,.data⟩,⟨5,.data⟩,⟨16,.chain⟩,⟨0,.phase⟩,⟨1,.phase⟩,⟨2,.phase⟩,⟨3,.phase⟩,⟨4,.phase⟩,⟨5,.phase⟩,⟨6,.textOnly .lateStores⟩,⟨7,.textOnly .lateStoresUnsure⟩,⟨8,.textOnly .lateStores⟩,⟨9,.textOnly .lateStores⟩,⟨10,.textOnly .lateStores⟩,⟨11,.phase⟩,⟨12,.phase⟩,⟨13,.phase⟩,⟨14,.phase⟩,⟨15,.phase⟩,⟨16,.phase⟩],none⟩,⟨some 113,.fieldAddr 30 (.tmp 6) 1,0,"text.go:102",#[⟨0,.phase⟩,⟨1,.phase⟩,⟨2,.phase⟩,⟨3,.phase⟩,⟨4,.phase⟩,⟨5,.phase⟩,⟨6,.phase⟩,⟨7,.phase⟩,⟨8,.textOnly .lateStores⟩,⟨9,.textOnly .lateStores⟩,⟨10,.textOnly .lateStores⟩,⟨11,.phase⟩,⟨12,.phase⟩,⟨13,.phase⟩,⟨14,.phase⟩,⟨15,.phase⟩,⟨16,.phase⟩,⟨17,.phase⟩,⟨18,.phase⟩,⟨19,.phase⟩],none⟩,⟨some 114,.fieldAddr 27 (.tmp 113) 3,0,"text.go:102",#[⟨20,.data⟩,⟨0,.phase⟩,⟨1,.phase⟩,⟨2,.phase⟩,⟨3,.phase⟩,⟨4,.phase⟩,⟨5,.phase⟩,⟨6,.phase⟩,⟨7,.phase⟩,⟨8,.textOnly .lateStores⟩,⟨9,.textOnly .lateStores⟩,⟨10,.textOnly .lateStores⟩,⟨11,.phase⟩,⟨12,.phase⟩,⟨13,.phase⟩,⟨14,.phase⟩,⟨15,.phase⟩,⟨16,.phase⟩,⟨17,.phase⟩,⟨18,.phase⟩,⟨19,.phase⟩],none⟩,⟨none,.store 23 (.tmp 114) (.tmp 103),0,"text.go:102",#[⟨21,.data⟩,⟨7,.data⟩,⟨19,.chain⟩,⟨0,.phase⟩,⟨1,.phase⟩,⟨2,.phase⟩,⟨3,.phase⟩,⟨4,.phase⟩,⟨5,.phase⟩,⟨6,.phase⟩,⟨7,.phase⟩,⟨8,.textOnly .lateStores⟩,⟨9,.textOnly .lateStores⟩,⟨10,.textOnly .lateStores⟩,⟨11,.phase⟩,⟨12,.phase⟩,⟨13,.phase⟩,⟨14,.phase⟩,⟨15,.phase⟩,⟨16,.phase⟩,⟨17,.phase⟩,⟨18,.phase⟩,⟨19,.phase⟩],none⟩,⟨some 115,.fieldAddr 30 (.tmp 6) 1,0,"text.go:102",#[⟨0,.phase⟩,⟨1,.phase⟩,⟨2,.phase⟩,⟨3,.phase⟩,⟨4,.phase⟩,⟨5,.phase⟩,⟨6,.phase⟩,⟨7,.phase⟩,⟨8,.phase⟩,⟨9,.phase⟩,⟨10,.phase⟩,⟨11,.phase⟩,⟨12,.phase⟩,⟨13,.phase⟩,⟨14,.phase⟩,⟨15,.phase⟩,⟨16,.phase⟩,⟨17,.phase⟩,⟨18,.phase⟩,⟨19,.phase⟩,⟨20,.phase⟩,⟨21,.phase⟩,⟨22,.phase⟩],none⟩,⟨some 116,.fieldAddr 27 (.tmp 115) 4,0,"text.go:102",#[⟨23,.data⟩,⟨0,.phase⟩,⟨1,.phase⟩,⟨2,.phase⟩,⟨3,.phase⟩,⟨4,.phase⟩,⟨5,.phase⟩,⟨6,.phase⟩,⟨7,.phase⟩,⟨8,.phase⟩,⟨9,.phase⟩,⟨10,.phase⟩,⟨11,.phase⟩,⟨12,.phase⟩,⟨13,.phase⟩,⟨14,.phase⟩,⟨15,.phase⟩,⟨16,.phase⟩,⟨17,.phase⟩,⟨18,.phase⟩,⟨19,.phase⟩,⟨20,.phase⟩,⟨21,.phase⟩,⟨22,.phase⟩],none⟩,⟨none,.store 3 (.tmp 116) (.tmp 106),0,"text.go:102",#[⟨24,.data⟩,⟨10,.data⟩,⟨22,.chain⟩,⟨0,.phase⟩,⟨1,.phase⟩,⟨2,.phase⟩,⟨3,.phase⟩,⟨4,.phase⟩,⟨5,.phase⟩,⟨6,.phase⟩,⟨7,.phase⟩,⟨8,.phase⟩,⟨9,.phase⟩,⟨10,.phase⟩,⟨11,.phase⟩,⟨12,.phase⟩,⟨13,.phase⟩,⟨14,.phase⟩,⟨15,.phase⟩,⟨16,.phase⟩,⟨17,.phase⟩,⟨18,.phase⟩,⟨19,.phase⟩,⟨20,.phase⟩,⟨21,.phase⟩,⟨22,.phase⟩],none⟩] true) Q ⟨#[u0,u1,u2,u3,u4,u5,(.pointer (some ⟨g,0,none⟩)),u7,u8,u9,(.slice (some ⟨q,0,none⟩) 9 cp),A1,A2,A3,A4,A5,A6,A7,A8,A9,Aa,Ab,Ac,Ad,Ae,Af,Ag,Ah,Ai,Aj,Ak,Al,Am,An,Ao,Ap,Aq,Ar,As,At,Au,Av,Aw,Ax,Ay,Az,C0,C1,C2,C3,C4,C5,C6,C7,C8,C9,Ca,Cb,Cc,Cd,Ce,Cf,Cg,Ch,Ci,Cj,Ck,Cl,Cm,Cn,Co,Cp,Cq,Cr,Cs,Ct,Cu,Cv,Cw,Cx,Cy,Cz,D0,D1,D2,D3,D4,D5,D6,D7,D8,D9,Da,Db,Dc,Dd,De,Df,Dg,Dh,Di,Dj,Dk,Dl,Dm,Dn,Do,Dp,Dq,Dr,Ds,Dt,Du,Dv,Dw,Dx,Dy,Dz,E0,E1,E2,E3,E4,E5,E6,E7,E8,E9,Ea,Eb,Ec,Ed,Ee,Ef,Eg,Eh,Ei,Ej,Ek,El,Em,En,Eo],[]⟩ w := by
  have HK := hidMk hK
  clear hK
  have hgq : g ≠ q := by have := hJ.lt; omega
  refine region_via (R := fun a_ e_ a' w' => e_ = .normal ∧ ∃ (v96 v97 v98 v99 v100 v101 v102 v103 v104 v105 v106 v107 v108 v109 v110 v111 v112 v113 v114 v115 v116 : Value),a' = (((((((((((((((((((((a_.put (some 96) v96).put (some 97) v97).put (some 98) v98).put (some 99) v99).put (some 100) v100).put (some 101) v101).put (some 102) v102).put (some 103) v103).put (some 104) v104).put (some 105) v105).put (some 106) v106).put (some 107) v107).put (some 108) v108).put (some 109) v109).put (some 110) v110).put (some 111) v111).put (some 112) v112).put (some 113) v113).put (some 114) v114).put (some 115) v115).put (some 116) v116) ∧ PJ g Bs w1 { J with u1 := x0,u2 := x1,d1 := x2,d2 := x3,x1 := x4,x2 := x5,y1 := x6,y2 := x7,le := x8 } sv w') ?_ ?_
  rotate_left
  · rintro e_ a' w' ⟨rfl,v96,v97,v98,v99,v100,v101,v102,v103,v104,v105,v106,v107,v108,v109,v110,v111,v112,v113,v114,v115,v116,rfl,h1⟩
    simp only [Act.put,aT,aZ,aS]
    exact HK.out _ h1 _ _ _ _ _ _ _ _ _ _ _ _ _ _ _ _ _ _ _ _ _ 
  have hJ_ : PJ g Bs w1 J sv w.drew := hJ.drew
  have hC : w.drew.cell? ⟨q,0,none⟩ = some (.int .i64 x0) ∧ w.drew.cell? ⟨q,1,none⟩ = some (.int .i64 x1) ∧ w.drew.cell? ⟨q,2,none⟩ = some (.int .i64 x2) ∧ w.drew.cell? ⟨q,3,none⟩ = some (.int .i64 x3) ∧ w.drew.cell? ⟨q,4,none⟩ = some (.int .i64 x4) ∧ w.drew.cell? ⟨q,5,none⟩ = some (.int .i64 x5) ∧ w.drew.cell? ⟨q,6,none⟩ = some (.int .i64 x6) ∧ w.drew.cell? ⟨q,7,none⟩ = some (.int .i64 x7) ∧ w.drew.cell? ⟨q,8,none⟩ = some (.int .i64 x8) := hc
  have hq_ : Bs ≤ q ∧ q < w.drew.heap.size := hq
  clear hJ hc hq
  have hJ := hJ_
  have hq := hq_
  clear hJ_ hq_
  refine wp_region_held_drew (S := (fun w' => w'.cell? ⟨q,0,none⟩ = some (.int .i64 x0) ∧ w'.cell? ⟨q,1,none⟩ = some (.int .i64 x1) ∧ w'.cell? ⟨q,2,none⟩ = some (.int .i64 x2) ∧ w'.cell? ⟨q,3,none⟩ = some (.int .i64 x3) ∧ w'.cell? ⟨q,4,none⟩ = some (.int .i64 x4) ∧ w'.cell? ⟨q,5,none⟩ = some (.int .i64 x5) ∧ w'.cell? ⟨q,6,none⟩ = some (.int .i64 x6) ∧ w'.cell? ⟨q,7,none⟩ = some (.int .i64 x7) ∧ w'.cell? ⟨q,8,none⟩ = some (.int .i64 x8))) (by kernel_rfl) hC (fun hS0 => ?_)
  clear hS0
  generalize w.drew = wd at hJ hC hq ⊢
  refine wT (i := 0) (v := ?_) rfl (.inl ⟨by rfl,?_⟩) ?_
  rotate_left
  · (intro w' hSw; (try dsimp only at hSw); go_simp <;> with_reducible rfl)
  (try simp only [Act.put,aT,aZ,aS])
  refine wT (i := 2) (v := ?_) rfl (.inl ⟨by rfl,?_⟩) ?_
  rotate_left
  · (intro w' hSw; (try dsimp only at hSw); go_simp <;> with_reducible rfl)
  (try simp only [Act.put,aT,aZ,aS])
  refine wT (i := 4) (v := ?_) rfl (.inl ⟨by rfl,?_⟩) ?_
  rotate_left
  · (intro w' hSw; (try dsimp only at hSw); go_simp <;> with_reducible rfl)
  (try simp only [Act.put,aT,aZ,aS])
  refine wT (i := 6) (v := ?_) rfl (.inl ⟨by rfl,?_⟩) ?_
  rotate_left
  · (intro w' hSw; (try dsimp only at hSw); go_simp <;> with_reducible rfl)
  (try simp only [Act.put,aT,aZ,aS])
  refine wT (i := 8) (v := ?_) rfl (.inl ⟨by rfl,?_⟩) ?_
  rotate_left
  · (intro w' hSw; (try dsimp only at hSw); go_simp <;> with_reducible rfl)
  (try simp only [Act.put,aT,aZ,aS])
  refine wT (i := 9) (v := ?_) rfl (.inl ⟨by rfl,?_⟩) ?_
  rotate_left
  · (intro w' hSw; (try dsimp only at hSw); go_simp <;> with_reducible rfl)
  (try simp only [Act.put,aT,aZ,aS])
  refine wT (i := 10) (v := ?_) rfl (.inl ⟨by rfl,?_⟩) ?_
  rotate_left
  · (intro w' hSw; (try dsimp only at hSw); have q0 := hSw.2.2.2.2.2.2.2.2; go_simp <;> with_reducible rfl)
  (try simp only [Act.put,aT,aZ,aS])
  refine wpAnyH_ready (rs := [1]) (by kernel_rfl) (by simp) ?_
  refine AllReadyH.cons rfl (fun K hK => ?_) ?_
  · go_simp
    go_at_call 38
    refine (at_any q 9 cp 0 x0 x1 wd (by omega) (by omega) hq.2 hC.1 hC.2.1).mono ?_
    rintro e wc0 ⟨rfl,hb_⟩
    go_wp2_with fail
    have hJ_ := hJ.below hb_ (Nat.le_refl _)
    have hq_ : Bs ≤ q ∧ q < wc0.heap.size := ⟨hq.1,Nat.lt_of_lt_of_le hq.2 hb_.size⟩
    have hC_ : wc0.cell? ⟨q,0,none⟩ = some (.int .i64 x0) ∧ wc0.cell? ⟨q,1,none⟩ = some (.int .i64 x1) ∧ wc0.cell? ⟨q,2,none⟩ = some (.int .i64 x2) ∧ wc0.cell? ⟨q,3,none⟩ = some (.int .i64 x3) ∧ wc0.cell? ⟨q,4,none⟩ = some (.int .i64 x4) ∧ wc0.cell? ⟨q,5,none⟩ = some (.int .i64 x5) ∧ wc0.cell? ⟨q,6,none⟩ = some (.int .i64 x6) ∧ wc0.cell? ⟨q,7,none⟩ = some (.int .i64 x7) ∧ wc0.cell? ⟨q,8,none⟩ = some (.int .i64 x8) := ⟨(hb_.cell (p := ⟨q,0,none⟩) hq.2).trans (hC.1),(hb_.cell (p := ⟨q,1,none⟩) hq.2).trans (hC.2.1),(hb_.cell (p := ⟨q,2,none⟩) hq.2).trans (hC.2.2.1),(hb_.cell (p := ⟨q,3,none⟩) hq.2).trans (hC.2.2.2.1),(hb_.cell (p := ⟨q,4,none⟩) hq.2).trans (hC.2.2.2.2.1),(hb_.cell (p := ⟨q,5,none⟩) hq.2).trans (hC.2.2.2.2.2.1),(hb_.cell (p := ⟨q,6,none⟩) hq.2).trans (hC.2.2.2.2.2.2.1),(hb_.cell (p := ⟨q,7,none⟩) hq.2).trans (hC.2.2.2.2.2.2.2.1),(hb_.cell (p := ⟨q,8,none⟩) hq.2).trans (hC.2.2.2.2.2.2.2.2)⟩
    refine hK.out _ _ hC_ (fun _ => ?_)
    clear hJ hq hC hb_
    have hJ := hJ_
    have hq := hq_
    have hC := hC_
    clear hJ_ hq_ hC_
    clear hK K
    (try simp only [Act.put,aT,aZ,aS])
    refine wT (i := 11) (v := ?_) rfl (.inl ⟨by rfl,?_⟩) ?_
    rotate_left
    · (intro w' hSw; (try dsimp only at hSw); go_simp <;> with_reducible rfl)
    (try simp only [Act.put,aT,aZ,aS])
    refine wT (i := 12) (v := ?_) rfl (.inl ⟨by rfl,?_⟩) ?_
    rotate_left
    · (intro w' hSw; (try dsimp only at hSw); go_simp <;> with_reducible rfl)
    (try simp only [Act.put,aT,aZ,aS])
    refine wpAnyH_ready (rs := [3]) (by kernel_rfl) (by simp) ?_
    refine AllReadyH.cons rfl (fun K hK => ?_) ?_
    · go_simp
      go_at_call 38
      refine (at_any q 9 cp 2 x2 x3 wc0 (by omega) (by omega) hq.2 hC.2.2.1 hC.2.2.2.1).mono ?_
      rintro e wc2 ⟨rfl,hb_⟩
      go_wp2_with fail
      have hJ_ := hJ.below hb_ (Nat.le_refl _)
      have hq_ : Bs ≤ q ∧ q < wc2.heap.size := ⟨hq.1,Nat.lt_of_lt_of_le hq.2 hb_.size⟩
      have hC_ : wc2.cell? ⟨q,0,none⟩ = some (.int .i64 x0) ∧ wc2.cell? ⟨q,1,none⟩ = some (.int .i64 x1) ∧ wc2.cell? ⟨q,2,none⟩ = some (.int .i64 x2) ∧ wc2.cell? ⟨q,3,none⟩ = some (.int .i64 x3) ∧ wc2.cell? ⟨q,4,none⟩ = some (.int .i64 x4) ∧ wc2.cell? ⟨q,5,none⟩ = some (.int .i64 x5) ∧ wc2.cell? ⟨q,6,none⟩ = some (.int .i64 x6) ∧ wc2.cell? ⟨q,7,none⟩ = some (.int .i64 x7) ∧ wc2.cell? ⟨q,8,none⟩ = some (.int .i64 x8) := ⟨(hb_.cell (p := ⟨q,0,none⟩) hq.2).trans (hC.1),(hb_.cell (p := ⟨q,1,none⟩) hq.2).trans (hC.2.1),(hb_.cell (p := ⟨q,2,none⟩) hq.2).trans (hC.2.2.1),(hb_.cell (p := ⟨q,3,none⟩) hq.2).trans (hC.2.2.2.1),(hb_.cell (p := ⟨q,4,none⟩) hq.2).trans (hC.2.2.2.2.1),(hb_.cell (p := ⟨q,5,none⟩) hq.2).trans (hC.2.2.2.2.2.1),(hb_.cell (p := ⟨q,6,none⟩) hq.2).trans (hC.2.2.2.2.2.2.1),(hb_.cell (p := ⟨q,7,none⟩) hq.2).trans (hC.2.2.2.2.2.2.2.1),(hb_.cell (p := ⟨q,8,none⟩) hq.2).trans (hC.2.2.2.2.2.2.2.2)⟩
      refine hK.out _ _ hC_ (fun _ => ?_)
      clear hJ hq hC hb_
      have hJ := hJ_
      have hq := hq_
      have hC := hC_
      clear hJ_ hq_ hC_
      clear hK K
      (try simp only [Act.put,aT,aZ,aS])
      refine wpAnyH_ready (rs := [5]) (by kernel_rfl) (by simp) ?_
      refine AllReadyH.cons rfl (fun K hK => ?_) ?_
      · go_simp
        go_at_call 38
        refine (at_any q 9 cp 4 x4 x5 wc2 (by omega) (by omega) hq.2 hC.2.2.2.2.1 hC.2.2.2.2.2.1).mono ?_
        rintro e wc4 ⟨rfl,hb_⟩
        go_wp2_with fail
        have hJ_ := hJ.below hb_ (Nat.le_refl _)
        have hq_ : Bs ≤ q ∧ q < wc4.heap.size := ⟨hq.1,Nat.lt_of_lt_of_le hq.2 hb_.size⟩
        have hC_ : wc4.cell? ⟨q,0,none⟩ = some (.int .i64 x0) ∧ wc4.cell? ⟨q,1,none⟩ = some (.int .i64 x1) ∧ wc4.cell? ⟨q,2,none⟩ = some (.int .i64 x2) ∧ wc4.cell? ⟨q,3,none⟩ = some (.int .i64 x3) ∧ wc4.cell? ⟨q,4,none⟩ = some (.int .i64 x4) ∧ wc4.cell? ⟨q,5,none⟩ = some (.int .i64 x5) ∧ wc4.cell? ⟨q,6,none⟩ = some (.int .i64 x6) ∧ wc4.cell? ⟨q,7,none⟩ = some (.int .i64 x7) ∧ wc4.cell? ⟨q,8,none⟩ = some (.int .i64 x8) := ⟨(hb_.cell (p := ⟨q,0,none⟩) hq.2).trans (hC.1),(hb_.cell (p := ⟨q,1,none⟩) hq.2).trans (hC.2.1),(hb_.cell (p := ⟨q,2,none⟩) hq.2).trans (hC.2.2.1),(hb_.cell (p := ⟨q,3,none⟩) hq.2).trans (hC.2.2.2.1),(hb_.cell (p := ⟨q,4,none⟩) hq.2).trans (hC.2.2.2.2.1),(hb_.cell (p := ⟨q,5,none⟩) hq.2).trans (hC.2.2.2.2.2.1),(hb_.cell (p := ⟨q,6,none⟩) hq.2).trans (hC.2.2.2.2.2.2.1),(hb_.cell (p := ⟨q,7,none⟩) hq.2).trans (hC.2.2.2.2.2.2.2.1),(hb_.cell (p := ⟨q,8,none⟩) hq.2).trans (hC.2.2.2.2.2.2.2.2)⟩
        refine hK.out _ _ hC_ (fun _ => ?_)
        clear hJ hq hC hb_
        have hJ := hJ_
        have hq := hq_
        have hC := hC_
        clear hJ_ hq_ hC_
        clear hK K
        (try simp only [Act.put,aT,aZ,aS])
        refine wpAnyH_ready (rs := [7]) (by kernel_rfl) (by simp) ?_
        refine AllReadyH.cons rfl (fun K hK => ?_) ?_
        · go_simp
          go_at_call 38
          refine (at_any q 9 cp 6 x6 x7 wc4 (by omega) (by omega) hq.2 hC.2.2.2.2.2.2.1 hC.2.2.2.2.2.2.2.1).mono ?_
          rintro e wc6 ⟨rfl,hb_⟩
          go_wp2_with fail
          have hJ_ := hJ.below hb_ (Nat.le_refl _)
          have hq_ : Bs ≤ q ∧ q < wc6.heap.size := ⟨hq.1,Nat.lt_of_lt_of_le hq.2 hb_.size⟩
          have hC_ : wc6.cell? ⟨q,0,none⟩ = some (.int .i64 x0) ∧ wc6.cell? ⟨q,1,none⟩ = some (.int .i64 x1) ∧ wc6.cell? ⟨q,2,none⟩ = some (.int .i64 x2) ∧ wc6.cell? ⟨q,3,none⟩ = some (.int .i64 x3) ∧ wc6.cell? ⟨q,4,none⟩ = some (.int .i64 x4) ∧ wc6.cell? ⟨q,5,none⟩ = some (.int .i64 x5) ∧ wc6.cell? ⟨q,6,none⟩ = some (.int .i64 x6) ∧ wc6.cell? ⟨q,7,none⟩ = some (.int .i64 x7) ∧ wc6.cell? ⟨q,8,none⟩ = some (.int .i64 x8) := ⟨(hb_.cell (p := ⟨q,0,none⟩) hq.2).trans (hC.1),(hb_.cell (p := ⟨q,1,none⟩) hq.2).trans (hC.2.1),(hb_.cell (p := ⟨q,2,none⟩) hq.2).trans (hC.2.2.1),(hb_.cell (p := ⟨q,3,none⟩) hq.2).trans (hC.2.2.2.1),(hb_.cell (p := ⟨q,4,none⟩) hq.2).trans (hC.2.2.2.2.1),(hb_.cell (p := ⟨q,5,none⟩) hq.2).trans (hC.2.2.2.2.2.1),(hb_.cell (p := ⟨q,6,none⟩) hq.2).trans (hC.2.2.2.2.2.2.1),(hb_.cell (p := ⟨q,7,none⟩) hq.2).trans (hC.2.2.2.2.2.2.2.1),(hb_.cell (p := ⟨q,8,none⟩) hq.2).trans (hC.2.2.2.2.2.2.2.2)⟩
          refine hK.out _ _ hC_ (fun _ => ?_)
          clear hJ hq hC hb_
          have hJ := hJ_
          have hq := hq_
          have hC := hC_
          clear hJ_ hq_ hC_
          clear hK K
          (try simp only [Act.put,aT,aZ,aS])
          refine wpAnyH_ready (rs := [13]) (by kernel_rfl) (by simp) ?_
          refine AllReadyH.cons rfl (fun K hK => ?_) ?_
          · have z0 := hJ.bk.at_ 6 _ rfl
            have z1 := hJ.bk.at_ 7 _ rfl
            have f0 := hJ.bk.free 6
            have f1 := hJ.bk.free 7
            go_simp
            have hC_ : ((wc6.setCell ⟨g,6,none⟩ (.int .i64 x0)).setCell ⟨g,7,none⟩ (.int .i64 x1)).cell? ⟨q,0,none⟩ = some (.int .i64 x0) ∧ ((wc6.setCell ⟨g,6,none⟩ (.int .i64 x0)).setCell ⟨g,7,none⟩ (.int .i64 x1)).cell? ⟨q,1,none⟩ = some (.int .i64 x1) ∧ ((wc6.setCell ⟨g,6,none⟩ (.int .i64 x0)).setCell ⟨g,7,none⟩ (.int .i64 x1)).cell? ⟨q,2,none⟩ = some (.int .i64 x2) ∧ ((wc6.setCell ⟨g,6,none⟩ (.int .i64 x0)).setCell ⟨g,7,none⟩ (.int .i64 x1)).cell? ⟨q,3,none⟩ = some (.int .i64 x3) ∧ ((wc6.setCell ⟨g,6,none⟩ (.int .i64 x0)).setCell ⟨g,7,none⟩ (.int .i64 x1)).cell? ⟨q,4,none⟩ = some (.int .i64 x4) ∧ ((wc6.setCell ⟨g,6,none⟩ (.int .i64 x0)).setCell ⟨g,7,none⟩ (.int .i64 x1)).cell? ⟨q,5,none⟩ = some (.int .i64 x5) ∧ ((wc6.setCell ⟨g,6,none⟩ (.int .i64 x0)).setCell ⟨g,7,none⟩ (.int .i64 x1)).cell? ⟨q,6,none⟩ = some (.int .i64 x6) ∧ ((wc6.setCell ⟨g,6,none⟩ (.int .i64 x0)).setCell ⟨g,7,none⟩ (.int .i64 x1)).cell? ⟨q,7,none⟩ = some (.int .i64 x7) ∧ ((wc6.setCell ⟨g,6,none⟩ (.int .i64 x0)).setCell ⟨g,7,none⟩ (.int .i64 x1)).cell? ⟨q,8,none⟩ = some (.int .i64 x8) := ⟨(cell_other _ g 7 q 0 _ hgq).trans ((cell_other _ g 6 q 0 _ hgq).trans (hC.1)),(cell_other _ g 7 q 1 _ hgq).trans ((cell_other _ g 6 q 1 _ hgq).trans (hC.2.1)),(cell_other _ g 7 q 2 _ hgq).trans ((cell_other _ g 6 q 2 _ hgq).trans (hC.2.2.1)),(cell_other _ g 7 q 3 _ hgq).trans ((cell_other _ g 6 q 3 _ hgq).trans (hC.2.2.2.1)),(cell_other _ g 7 q 4 _ hgq).trans ((cell_other _ g 6 q 4 _ hgq).trans (hC.2.2.2.2.1)),(cell_other _ g 7 q 5 _ hgq).trans ((cell_other _ g 6 q 5 _ hgq).trans (hC.2.2.2.2.2.1)),(cell_other _ g 7 q 6 _ hgq).trans ((cell_other _ g 6 q 6 _ hgq).trans (hC.2.2.2.2.2.2.1)),(cell_other _ g 7 q 7 _ hgq).trans ((cell_other _ g 6 q 7 _ hgq).trans (hC.2.2.2.2.2.2.2.1)),(cell_other _ g 7 q 8 _ hgq).trans ((cell_other _ g 6 q 8 _ hgq).trans (hC.2.2.2.2.2.2.2.2))⟩
            have hJ_ : PJ g Bs w1 { J with u1 := x0,u2 := x1 } sv ((wc6.setCell ⟨g,6,none⟩ (.int .i64 x0)).setCell ⟨g,7,none⟩ (.int .i64 x1)) := (hJ.cell2 6 (.int .i64 x0) (.int .i64 x1) rfl (J' := { J with u1 := x0,u2 := x1 }) rfl)
            refine hK.out _ _ hC_ (fun _ => ?_)
            clear z0 z1 f0 f1 hJ hC
            have hJ := hJ_
            have hC := hC_
            clear hJ_ hC_
            have hq_ : Bs ≤ q ∧ q < ((wc6.setCell ⟨g,6,none⟩ (.int .i64 x0)).setCell ⟨g,7,none⟩ (.int .i64 x1)).heap.size := ⟨hq.1,by have := hq.2; simpa using this⟩
            clear hq
            have hq := hq_
            clear hq_
            generalize ((wc6.setCell ⟨g,6,none⟩ (.int .i64 x0)).setCell ⟨g,7,none⟩ (.int .i64 x1)) = ws6 at hJ hC hq ⊢
            clear hK K
            (try simp only [Act.put,aT,aZ,aS])
            refine wT (i := 14) (v := ?_) rfl (.inl ⟨by rfl,?_⟩) ?_
            rotate_left
            · (intro w' hSw; (try dsimp only at hSw); go_simp <;> with_reducible rfl)
            (try simp only [Act.put,aT,aZ,aS])
            refine wT (i := 15) (v := ?_) rfl (.inl ⟨by rfl,?_⟩) ?_
            rotate_left
            · (intro w' hSw; (try dsimp only at hSw); go_simp <;> with_reducible rfl)
            (try simp only [Act.put,aT,aZ,aS])
            refine wpAnyH_ready (rs := [16]) (by kernel_rfl) (by simp) ?_
            refine AllReadyH.cons rfl (fun K hK => ?_) ?_
            · have z0 := hJ.bk.at_ 8 _ rfl
              have z1 := hJ.bk.at_ 9 _ rfl
              have f0 := hJ.bk.free 8
              have f1 := hJ.bk.free 9
              go_simp
              have hC_ : ((ws6.setCell ⟨g,8,none⟩ (.int .i64 x2)).setCell ⟨g,9,none⟩ (.int .i64 x3)).cell? ⟨q,0,none⟩ = some (.int .i64 x0) ∧ ((ws6.setCell ⟨g,8,none⟩ (.int .i64 x2)).setCell ⟨g,9,none⟩ (.int .i64 x3)).cell? ⟨q,1,none⟩ = some (.int .i64 x1) ∧ ((ws6.setCell ⟨g,8,none⟩ (.int .i64 x2)).setCell ⟨g,9,none⟩ (.int .i64 x3)).cell? ⟨q,2,none⟩ = some (.int .i64 x2) ∧ ((ws6.setCell ⟨g,8,none⟩ (.int .i64 x2)).setCell ⟨g,9,none⟩ (.int .i64 x3)).cell? ⟨q,3,none⟩ = some (.int .i64 x3) ∧ ((ws6.setCell ⟨g,8,none⟩ (.int .i64 x2)).setCell ⟨g,9,none⟩ (.int .i64 x3)).cell? ⟨q,4,none⟩ = some (.int .i64 x4) ∧ ((ws6.setCell ⟨g,8,none⟩ (.int .i64 x2)).setCell ⟨g,9,none⟩ (.int .i64 x3)).cell? ⟨q,5,none⟩ = some (.int .i64 x5) ∧ ((ws6.setCell ⟨g,8,none⟩ (.int .i64 x2)).setCell ⟨g,9,none⟩ (.int .i64 x3)).cell? ⟨q,6,none⟩ = some (.int .i64 x6) ∧ ((ws6.setCell ⟨g,8,none⟩ (.int .i64 x2)).setCell ⟨g,9,none⟩ (.int .i64 x3)).cell? ⟨q,7,none⟩ = some (.int .i64 x7) ∧ ((ws6.setCell ⟨g,8,none⟩ (.int .i64 x2)).setCell ⟨g,9,none⟩ (.int .i64 x3)).cell? ⟨q,8,none⟩ = some (.int .i64 x8) := ⟨(cell_other _ g 9 q 0 _ hgq).trans ((cell_other _ g 8 q 0 _ hgq).trans (hC.1)),(cell_other _ g 9 q 1 _ hgq).trans ((cell_other _ g 8 q 1 _ hgq).trans (hC.2.1)),(cell_other _ g 9 q 2 _ hgq).trans ((cell_other _ g 8 q 2 _ hgq).trans (hC.2.2.1)),(cell_other _ g 9 q 3 _ hgq).trans ((cell_other _ g 8 q 3 _ hgq).trans (hC.2.2.2.1)),(cell_other _ g 9 q 4 _ hgq).trans ((cell_other _ g 8 q 4 _ hgq).trans (hC.2.2.2.2.1)),(cell_other _ g 9 q 5 _ hgq).trans ((cell_other _ g 8 q 5 _ hgq).trans (hC.2.2.2.2.2.1)),(cell_other _ g 9 q 6 _ hgq).trans ((cell_other _ g 8 q 6 _ hgq).trans (hC.2.2.2.2.2.2.1)),(cell_other _ g 9 q 7 _ hgq).trans ((cell_other _ g 8 q 7 _ hgq).trans (hC.2.2.2.2.2.2.2.1)),(cell_other _ g 9 q 8 _ hgq).trans ((cell_other _ g 8 q 8 _ hgq).trans (hC.2.2.2.2.2.2.2.2))⟩
              have hJ_ : PJ g Bs w1 { J with u1 := x0,u2 := x1,d1 := x2,d2 := x3 } sv ((ws6.setCell ⟨g,8,none⟩ (.int .i64 x2)).setCell ⟨g,9,none⟩ (.int .i64 x3)) := (hJ.cell2 8 (.int .i64 x2) (.int .i64 x3) rfl (J' := { J with u1 := x0,u2 := x1,d1 := x2,d2 := x3 }) rfl)
              refine hK.out _ _ hC_ (fun _ => ?_)
              clear z0 z1 f0 f1 hJ hC
              have hJ := hJ_
              have hC := hC_
              clear hJ_ hC_
              have hq_ : Bs ≤ q ∧ q < ((ws6.setCell ⟨g,8,none⟩ (.int .i64 x2)).setCell ⟨g,9,none⟩ (.int .i64 x3)).heap.size := ⟨hq.1,by have := hq.2; simpa using this⟩
              clear hq
              have hq := hq_
              clear hq_
              generalize ((ws6.setCell ⟨g,8,none⟩ (.int .i64 x2)).setCell ⟨g,9,none⟩ (.int .i64 x3)) = ws8 at hJ hC hq ⊢
              clear hK K
              (try simp only [Act.put,aT,aZ,aS])
              refine wT (i := 17) (v := ?_) rfl (.inl ⟨by rfl,?_⟩) ?_
              rotate_left
              · (intro w' hSw; (try dsimp only at hSw); go_simp <;> with_reducible rfl)
              (try simp only [Act.put,aT,aZ,aS])
              refine wT (i := 18) (v := ?_) rfl (.inl ⟨by rfl,?_⟩) ?_
              rotate_left
              · (intro w' hSw; (try dsimp only at hSw); go_simp <;> with_reducible rfl)
              (try simp only [Act.put,aT,aZ,aS])
              refine wpAnyH_ready (rs := [19]) (by kernel_rfl) (by simp) ?_
              refine AllReadyH.cons rfl (fun K hK => ?_) ?_
              · have z0 := hJ.bk.at_ 10 _ rfl
                have z1 := hJ.bk.at_ 11 _ rfl
                have f0 := hJ.bk.free 10
                have f1 := hJ.bk.free 11
                go_simp
                have hC_ : ((ws8.setCell ⟨g,10,none⟩ (.int .i64 x4)).setCell ⟨g,11,none⟩ (.int .i64 x5)).cell? ⟨q,0,none⟩ = some (.int .i64 x0) ∧ ((ws8.setCell ⟨g,10,none⟩ (.int .i64 x4)).setCell ⟨g,11,none⟩ (.int .i64 x5)).cell? ⟨q,1,none⟩ = some (.int .i64 x1) ∧ ((ws8.setCell ⟨g,10,none⟩ (.int .i64 x4)).setCell ⟨g,11,none⟩ (.int .i64 x5)).cell? ⟨q,2,none⟩ = some (.int .i64 x2) ∧ ((ws8.setCell ⟨g,10,none⟩ (.int .i64 x4)).setCell ⟨g,11,none⟩ (.int .i64 x5)).cell? ⟨q,3,none⟩ = some (.int .i64 x3) ∧ ((ws8.setCell ⟨g,10,none⟩ (.int .i64 x4)).setCell ⟨g,11,none⟩ (.int .i64 x5)).cell? ⟨q,4,none⟩ = some (.int .i64 x4) ∧ ((ws8.setCell ⟨g,10,none⟩ (.int .i64 x4)).setCell ⟨g,11,none⟩ (.int .i64 x5)).cell? ⟨q,5,none⟩ = some (.int .i64 x5) ∧ ((ws8.setCell ⟨g,10,none⟩ (.int .i64 x4)).setCell ⟨g,11,none⟩ (.int .i64 x5)).cell? ⟨q,6,none⟩ = some (.int .i64 x6) ∧ ((ws8.setCell ⟨g,10,none⟩ (.int .i64 x4)).setCell ⟨g,11,none⟩ (.int .i64 x5)).cell? ⟨q,7,none⟩ = some (.int .i64 x7) ∧ ((ws8.setCell ⟨g,10,none⟩ (.int .i64 x4)).setCell ⟨g,11,none⟩ (.int .i64 x5)).cell? ⟨q,8,none⟩ = some (.int .i64 x8) := ⟨(cell_other _ g 11 q 0 _ hgq).trans ((cell_other _ g 10 q 0 _ hgq).trans (hC.1)),(cell_other _ g 11 q 1 _ hgq).trans ((cell_other _ g 10 q 1 _ hgq).trans (hC.2.1)),(cell_other _ g 11 q 2 _ hgq).trans ((cell_other _ g 10 q 2 _ hgq).trans (hC.2.2.1)),(cell_other _ g 11 q 3 _ hgq).trans ((cell_other _ g 10 q 3 _ hgq).trans (hC.2.2.2.1)),(cell_other _ g 11 q 4 _ hgq).trans ((cell_other _ g 10 q 4 _ hgq).trans (hC.2.2.2.2.1)),(cell_other _ g 11 q 5 _ hgq).trans ((cell_other _ g 10 q 5 _ hgq).trans (hC.2.2.2.2.2.1)),(cell_other _ g 11 q 6 _ hgq).trans ((cell_other _ g 10 q 6 _ hgq).trans (hC.2.2.2.2.2.2.1)),(cell_other _ g 11 q 7 _ hgq).trans ((cell_other _ g 10 q 7 _ hgq).trans (hC.2.2.2.2.2.2.2.1)),(cell_other _ g 11 q 8 _ hgq).trans ((cell_other _ g 10 q 8 _ hgq).trans (hC.2.2.2.2.2.2.2.2))⟩
                have hJ_ : PJ g Bs w1 { J with u1 := x0,u2 := x1,d1 := x2,d2 := x3,x1 := x4,x2 := x5 } sv ((ws8.setCell ⟨g,10,none⟩ (.int .i64 x4)).setCell ⟨g,11,none⟩ (.int .i64 x5)) := (hJ.cell2 10 (.int .i64 x4) (.int .i64 x5) rfl (J' := { J with u1 := x0,u2 := x1,d1 := x2,d2 := x3,x1 := x4,x2 := x5 }) rfl)
                refine hK.out _ _ hC_ (fun _ => ?_)
                clear z0 z1 f0 f1 hJ hC
                have hJ := hJ_
                have hC := hC_
                clear hJ_ hC_
                have hq_ : Bs ≤ q ∧ q < ((ws8.setCell ⟨g,10,none⟩ (.int .i64 x4)).setCell ⟨g,11,none⟩ (.int .i64 x5)).heap.size := ⟨hq.1,by have := hq.2; simpa using this⟩
                clear hq
                have hq := hq_
                clear hq_
                generalize ((ws8.setCell ⟨g,10,none⟩ (.int .i64 x4)).setCell ⟨g,11,none⟩ (.int .i64 x5)) = ws10 at hJ hC hq ⊢
                clear hK K
                (try simp only [Act.put,aT,aZ,aS])
                refine wT (i := 20) (v := ?_) rfl (.inl ⟨by rfl,?_⟩) ?_
                rotate_left
                · (intro w' hSw; (try dsimp only at hSw); go_simp <;> with_reducible rfl)
                (try simp only [Act.put,aT,aZ,aS])
                refine wT (i := 21) (v := ?_) rfl (.inl ⟨by rfl,?_⟩) ?_
                rotate_left
                · (intro w' hSw; (try dsimp only at hSw); go_simp <;> with_reducible rfl)
                (try simp only [Act.put,aT,aZ,aS])
                refine wpAnyH_ready (rs := [22]) (by kernel_rfl) (by simp) ?_
                refine AllReadyH.cons rfl (fun K hK => ?_) ?_
                · have z0 := hJ.bk.at_ 12 _ rfl
                  have z1 := hJ.bk.at_ 13 _ rfl
                  have f0 := hJ.bk.free 12
                  have f1 := hJ.bk.free 13
                  go_simp
                  have hC_ : ((ws10.setCell ⟨g,12,none⟩ (.int .i64 x6)).setCell ⟨g,13,none⟩ (.int .i64 x7)).cell? ⟨q,0,none⟩ = some (.int .i64 x0) ∧ ((ws10.setCell ⟨g,12,none⟩ (.int .i64 x6)).setCell ⟨g,13,none⟩ (.int .i64 x7)).cell? ⟨q,1,none⟩ = some (.int .i64 x1) ∧ ((ws10.setCell ⟨g,12,none⟩ (.int .i64 x6)).setCell ⟨g,13,none⟩ (.int .i64 x7)).cell? ⟨q,2,none⟩ = some (.int .i64 x2) ∧ ((ws10.setCell ⟨g,12,none⟩ (.int .i64 x6)).setCell ⟨g,13,none⟩ (.int .i64 x7)).cell? ⟨q,3,none⟩ = some (.int .i64 x3) ∧ ((ws10.setCell ⟨g,12,none⟩ (.int .i64 x6)).setCell ⟨g,13,none⟩ (.int .i64 x7)).cell? ⟨q,4,none⟩ = some (.int .i64 x4) ∧ ((ws10.setCell ⟨g,12,none⟩ (.int .i64 x6)).setCell ⟨g,13,none⟩ (.int .i64 x7)).cell? ⟨q,5,none⟩ = some (.int .i64 x5) ∧ ((ws10.setCell ⟨g,12,none⟩ (.int .i64 x6)).setCell ⟨g,13,none⟩ (.int .i64 x7)).cell? ⟨q,6,none⟩ = some (.int .i64 x6) ∧ ((ws10.setCell ⟨g,12,none⟩ (.int .i64 x6)).setCell ⟨g,13,none⟩ (.int .i64 x7)).cell? ⟨q,7,none⟩ = some (.int .i64 x7) ∧ ((ws10.setCell ⟨g,12,none⟩ (.int .i64 x6)).setCell ⟨g,13,none⟩ (.int .i64 x7)).cell? ⟨q,8,none⟩ = some (.int .i64 x8) := ⟨(cell_other _ g 13 q 0 _ hgq).trans ((cell_other _ g 12 q 0 _ hgq).trans (hC.1)),(cell_other _ g 13 q 1 _ hgq).trans ((cell_other _ g 12 q 1 _ hgq).trans (hC.2.1)),(cell_other _ g 13 q 2 _ hgq).trans ((cell_other _ g 12 q 2 _ hgq).trans (hC.2.2.1)),(cell_other _ g 13 q 3 _ hgq).trans ((cell_other _ g 12 q 3 _ hgq).trans (hC.2.2.2.1)),(cell_other _ g 13 q 4 _ hgq).trans ((cell_other _ g 12 q 4 _ hgq).trans (hC.2.2.2.2.1)),(cell_other _ g 13 q 5 _ hgq).trans ((cell_other _ g 12 q 5 _ hgq).trans (hC.2.2.2.2.2.1)),(cell_other _ g 13 q 6 _ hgq).trans ((cell_other _ g 12 q 6 _ hgq).trans (hC.2.2.2.2.2.2.1)),(cell_other _ g 13 q 7 _ hgq).trans ((cell_other _ g 12 q 7 _ hgq).trans (hC.2.2.2.2.2.2.2.1)),(cell_other _ g 13 q 8 _ hgq).trans ((cell_other _ g 12 q 8 _ hgq).trans (hC.2.2.2.2.2.2.2.2))⟩
                  have hJ_ : PJ g Bs w1 { J with u1 := x0,u2 := x1,d1 := x2,d2 := x3,x1 := x4,x2 := x5,y1 := x6,y2 := x7 } sv ((ws10.setCell ⟨g,12,none⟩ (.int .i64 x6)).setCell ⟨g,13,none⟩ (.int .i64 x7)) := (hJ.cell2 12 (.int .i64 x6) (.int .i64 x7) rfl (J' := { J with u1 := x0,u2 := x1,d1 := x2,d2 := x3,x1 := x4,x2 := x5,y1 := x6,y2 := x7 }) rfl)
                  refine hK.out _ _ hC_ (fun _ => ?_)
                  clear z0 z1 f0 f1 hJ hC
                  have hJ := hJ_
                  have hC := hC_
                  clear hJ_ hC_
                  have hq_ : Bs ≤ q ∧ q < ((ws10.setCell ⟨g,12,none⟩ (.int .i64 x6)).setCell ⟨g,13,none⟩ (.int .i64 x7)).heap.size := ⟨hq.1,by have := hq.2; simpa using this⟩
                  clear hq
                  have hq := hq_
                  clear hq_
                  generalize ((ws10.setCell ⟨g,12,none⟩ (.int .i64 x6)).setCell ⟨g,13,none⟩ (.int .i64 x7)) = ws12 at hJ hC hq ⊢
                  clear hK K
                  (try simp only [Act.put,aT,aZ,aS])
                  refine wT (i := 23) (v := ?_) rfl (.inl ⟨by rfl,?_⟩) ?_
                  rotate_left
                  · (intro w' hSw; (try dsimp only at hSw); go_simp <;> with_reducible rfl)
                  (try simp only [Act.put,aT,aZ,aS])
                  refine wT (i := 24) (v := ?_) rfl (.inl ⟨by rfl,?_⟩) ?_
                  rotate_left
                  · (intro w' hSw; (try dsimp only at hSw); go_simp <;> with_reducible rfl)
                  (try simp only [Act.put,aT,aZ,aS])
                  refine wpAnyH_ready (rs := [25]) (by kernel_rfl) (by simp) ?_
                  refine AllReadyH.cons rfl (fun K hK => ?_) ?_
                  · have z0 := hJ.bk.at_ 14 _ rfl
                    have f0 := hJ.bk.free 14
                    go_simp
                    have hC_ : (ws12.setCell ⟨g,14,none⟩ (.int .i64 x8)).cell? ⟨q,0,none⟩ = some (.int .i64 x0) ∧ (ws12.setCell ⟨g,14,none⟩ (.int .i64 x8)).cell? ⟨q,1,none⟩ = some (.int .i64 x1) ∧ (ws12.setCell ⟨g,14,none⟩ (.int .i64 x8)).cell? ⟨q,2,none⟩ = some (.int .i64 x2) ∧ (ws12.setCell ⟨g,14,none⟩ (.int .i64 x8)).cell? ⟨q,3,none⟩ = some (.int .i64 x3) ∧ (ws12.setCell ⟨g,14,none⟩ (.int .i64 x8)).cell? ⟨q,4,none⟩ = some (.int .i64 x4) ∧ (ws12.setCell ⟨g,14,none⟩ (.int .i64 x8)).cell? ⟨q,5,none⟩ = some (.int .i64 x5) ∧ (ws12.setCell ⟨g,14,none⟩ (.int .i64 x8)).cell? ⟨q,6,none⟩ = some (.int .i64 x6) ∧ (ws12.setCell ⟨g,14,none⟩ (.int .i64 x8)).cell? ⟨q,7,none⟩ = some (.int .i64 x7) ∧ (ws12.setCell ⟨g,14,none⟩ (.int .i64 x8)).cell? ⟨q,8,none⟩ = some (.int .i64 x8) := ⟨(cell_other _ g 14 q 0 _ hgq).trans (hC.1),(cell_other _ g 14 q 1 _ hgq).trans (hC.2.1),(cell_other _ g 14 q 2 _ hgq).trans (hC.2.2.1),(cell_other _ g 14 q 3 _ hgq).trans (hC.2.2.2.1),(cell_other _ g 14 q 4 _ hgq).trans (hC.2.2.2.2.1),(cell_other _ g 14 q 5 _ hgq).trans (hC.2.2.2.2.2.1),(cell_other _ g 14 q 6 _ hgq).trans (hC.2.2.2.2.2.2.1),(cell_other _ g 14 q 7 _ hgq).trans (hC.2.2.2.2.2.2.2.1),(cell_other _ g 14 q 8 _ hgq).trans (hC.2.2.2.2.2.2.2.2)⟩
                    have hJ_ : PJ g Bs w1 { J with u1 := x0,u2 := x1,d1 := x2,d2 := x3,x1 := x4,x2 := x5,y1 := x6,y2 := x7,le := x8 } sv (ws12.setCell ⟨g,14,none⟩ (.int .i64 x8)) := (hJ.cell1 14 (.int .i64 x8) rfl (J' := { J with u1 := x0,u2 := x1,d1 := x2,d2 := x3,x1 := x4,x2 := x5,y1 := x6,y2 := x7,le := x8 }) rfl)
                    refine hK.out _ _ hC_ (fun _ => ?_)
                    clear z0 f0 hJ hC
                    have hJ := hJ_
                    have hC := hC_
                    clear hJ_ hC_
                    have hq_ : Bs ≤ q ∧ q < (ws12.setCell ⟨g,14,none⟩ (.int .i64 x8)).heap.size := ⟨hq.1,by have := hq.2; simpa using this⟩
                    clear hq
                    have hq := hq_
                    clear hq_
                    generalize (ws12.setCell ⟨g,14,none⟩ (.int .i64 x8)) = ws14 at hJ hC hq ⊢
                    clear hK K
                    (try simp only [Act.put,aT,aZ,aS])
                    refine wpAnyH_done (by kernel_rfl) ?_ _
                    exact ⟨rfl,_,_,_,_,_,_,_,_,_,_,_,_,_,_,_,_,_,_,_,_,_,rfl,hJ⟩
                  exact AllReadyH.nil
                exact AllReadyH.nil
              exact AllReadyH.nil
            exact AllReadyH.nil
          exact AllReadyH.nil
        exact AllReadyH.nil
      exact AllReadyH.nil
    exact AllReadyH.nil
  exact AllReadyH.nil
end Go.Proofs.YtljefjngmembkaaGreatDoor
