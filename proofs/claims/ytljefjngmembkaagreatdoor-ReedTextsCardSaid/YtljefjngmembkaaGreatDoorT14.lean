/- Part 14 of the proof: TxN, Sh0, Snd. -/
import Derived.Test.YtljefjngmembkaaGreatDoorT13
import Derived.Test.YtljefjngmembkaaGreatDoorT12
import Derived.Test.YtljefjngmembkaaGreatDoorT11
namespace Go.Proofs.YtljefjngmembkaaGreatDoor
set_option linter.all false
open Go.RowKit
set_option maxHeartbeats 4000000 in
set_option maxRecDepth 100000 in
theorem take2_any (a0 b0 a1 b1 a2 b2 a3 b3 : Int) (g h o rc : Nat) (h2 o2 nc : Nat) (le : Int) (hg2 : h2 ≠ g) (cs : Array Value) (hcs : cs.size = 18) (w : World) (hb : Bk w g 30 cs) (hg : h ≠ g) (hx : w.cell? ⟨h,o,none⟩ = some (.int .i64 a0) ∧ w.cell? ⟨h,o + 1,none⟩ = some (.int .i64 b0) ∧ w.cell? ⟨h,o + 2,none⟩ = some (.int .i64 a1) ∧ w.cell? ⟨h,o + 3,none⟩ = some (.int .i64 b1) ∧ w.cell? ⟨h,o + 4,none⟩ = some (.int .i64 a2) ∧ w.cell? ⟨h,o + 5,none⟩ = some (.int .i64 b2) ∧ w.cell? ⟨h,o + 6,none⟩ = some (.int .i64 a3) ∧ w.cell? ⟨h,o + 7,none⟩ = some (.int .i64 b3) ∧ w.cell? ⟨h2,o2,none⟩ = some (.int .i64 le)) :
    Calls Tryz.prog 78 #[.pointer (some ⟨g,0,none⟩),.slice (some ⟨h,o,none⟩) 4 rc,.slice (some ⟨h2,o2,none⟩) 1 nc] w fun e w' => e = .returned (.tuple #[]) ∧ Bk w' g 30 (((((((((cs.setIfInBounds 6 (.int .i64 a0)).setIfInBounds 7 (.int .i64 b0)).setIfInBounds 8 (.int .i64 a1)).setIfInBounds 9 (.int .i64 b1)).setIfInBounds 10 (.int .i64 a2)).setIfInBounds 11 (.int .i64 b2)).setIfInBounds 12 (.int .i64 a3)).setIfInBounds 13 (.int .i64 b3)).setIfInBounds 14 (.int .i64 le)) ∧ PB g w.heap.size w w' := by
  have hgb : g < w.heap.size := hb.lt
  have hS : (fun w' => w'.cell? ⟨h,o,none⟩ = some (.int .i64 a0) ∧ w'.cell? ⟨h,o + 1,none⟩ = some (.int .i64 b0) ∧ w'.cell? ⟨h,o + 2,none⟩ = some (.int .i64 a1) ∧ w'.cell? ⟨h,o + 3,none⟩ = some (.int .i64 b1) ∧ w'.cell? ⟨h,o + 4,none⟩ = some (.int .i64 a2) ∧ w'.cell? ⟨h,o + 5,none⟩ = some (.int .i64 b2) ∧ w'.cell? ⟨h,o + 6,none⟩ = some (.int .i64 a3) ∧ w'.cell? ⟨h,o + 7,none⟩ = some (.int .i64 b3) ∧ w'.cell? ⟨h2,o2,none⟩ = some (.int .i64 le)) w.drew := hx
  have hP : PB g w.heap.size w w.drew := PB.of (Below.refl _ _).drew
  clear hx
  go_enter Tryz.func78,Tryz.ntmps78
  go_wp2_with fail
  refine region_via (R := fun a_ e_ a' w' => e_ = .normal ∧ ∃ (v6 v7 v8 v9 v10 v11 v12 v13 v14 v15 v16 v17 v18 v19 v20 v21 v22 v23 v24 v25 v26 v27 v28 v29 v30 v31 v32 v33 : Value),a' = ((((((((((((((((((((((((((((a_.put (some 6) v6).put (some 7) v7).put (some 8) v8).put (some 9) v9).put (some 10) v10).put (some 11) v11).put (some 12) v12).put (some 13) v13).put (some 14) v14).put (some 15) v15).put (some 16) v16).put (some 17) v17).put (some 18) v18).put (some 19) v19).put (some 20) v20).put (some 21) v21).put (some 22) v22).put (some 23) v23).put (some 24) v24).put (some 25) v25).put (some 26) v26).put (some 27) v27).put (some 28) v28).put (some 29) v29).put (some 30) v30).put (some 31) v31).put (some 32) v32).put (some 33) v33) ∧ Bk w' g 30 ((((((((cs.setIfInBounds 6 (.int .i64 a0)).setIfInBounds 7 (.int .i64 b0)).setIfInBounds 8 (.int .i64 a1)).setIfInBounds 9 (.int .i64 b1)).setIfInBounds 10 (.int .i64 a2)).setIfInBounds 11 (.int .i64 b2)).setIfInBounds 12 (.int .i64 a3)).setIfInBounds 13 (.int .i64 b3)) ∧ PB g w.heap.size w w' ∧ w'.cell? ⟨h,o,none⟩ = some (.int .i64 a0) ∧ w'.cell? ⟨h,o + 1,none⟩ = some (.int .i64 b0) ∧ w'.cell? ⟨h,o + 2,none⟩ = some (.int .i64 a1) ∧ w'.cell? ⟨h,o + 3,none⟩ = some (.int .i64 b1) ∧ w'.cell? ⟨h,o + 4,none⟩ = some (.int .i64 a2) ∧ w'.cell? ⟨h,o + 5,none⟩ = some (.int .i64 b2) ∧ w'.cell? ⟨h,o + 6,none⟩ = some (.int .i64 a3) ∧ w'.cell? ⟨h,o + 7,none⟩ = some (.int .i64 b3) ∧ w'.cell? ⟨h2,o2,none⟩ = some (.int .i64 le)) ?_ ?_
  rotate_left
  · rintro e_ a' w' ⟨rfl,v6,v7,v8,v9,v10,v11,v12,v13,v14,v15,v16,v17,v18,v19,v20,v21,v22,v23,v24,v25,v26,v27,v28,v29,v30,v31,v32,v33,rfl,h1,hp2,h3⟩
    simp only [Act.put,aT,aZ,aS]
    have HB' := hidMk h1
    have HP' := hidMk hp2
    have hle := h3.2.2.2.2.2.2.2.2
    clear h1 hp2 h3 hb hS hP
    have f0 := HB'.out.free 14
    have z0 := HB'.out.at_ 14 _ (Array.getElem?_eq_getElem (by simp [hcs]))
    go_wp2_with fail
    refine bodyPost_end (v := .tuple #[]) (by simp [results,Tryz.results78,go_sem]) rfl ⟨rfl,HB'.out.put 14 (.int .i64 le),HP'.out.put1 14 (.int .i64 le)⟩
  refine wp_region_held_drew (S := (fun w' => w'.cell? ⟨h,o,none⟩ = some (.int .i64 a0) ∧ w'.cell? ⟨h,o + 1,none⟩ = some (.int .i64 b0) ∧ w'.cell? ⟨h,o + 2,none⟩ = some (.int .i64 a1) ∧ w'.cell? ⟨h,o + 3,none⟩ = some (.int .i64 b1) ∧ w'.cell? ⟨h,o + 4,none⟩ = some (.int .i64 a2) ∧ w'.cell? ⟨h,o + 5,none⟩ = some (.int .i64 b2) ∧ w'.cell? ⟨h,o + 6,none⟩ = some (.int .i64 a3) ∧ w'.cell? ⟨h,o + 7,none⟩ = some (.int .i64 b3) ∧ w'.cell? ⟨h2,o2,none⟩ = some (.int .i64 le))) (by kernel_rfl) hS (fun hS0 => ?_)
  clear hS0
  have hB : Bk w.drew g 30 cs := hb
  clear hb
  generalize w.drew = wd at hS hB hP ⊢
  refine wT (i := 0) (v := ?_) rfl (.inl ⟨by rfl,?_⟩) ?_
  rotate_left
  · (intro w' hSw; (try dsimp only at hSw); go_simp <;> with_reducible rfl)
  (try simp only [Act.put,aT,aZ,aS])
  refine wT (i := 1) (v := ?_) rfl (.inl ⟨by rfl,?_⟩) ?_
  rotate_left
  · (intro w' hSw; (try dsimp only at hSw); go_simp <;> with_reducible rfl)
  (try simp only [Act.put,aT,aZ,aS])
  refine wT (i := 2) (v := ?_) rfl (.inl ⟨by rfl,?_⟩) ?_
  rotate_left
  · (intro w' hSw; (try dsimp only at hSw); go_simp <;> with_reducible rfl)
  (try simp only [Act.put,aT,aZ,aS])
  refine wT (i := 3) (v := ?_) rfl (.inl ⟨by rfl,?_⟩) ?_
  rotate_left
  · (intro w' hSw; (try dsimp only at hSw); go_simp <;> with_reducible rfl)
  (try simp only [Act.put,aT,aZ,aS])
  refine wT (i := 4) (v := ?_) rfl (.inl ⟨by rfl,?_⟩) ?_
  rotate_left
  · (intro w' hSw; (try dsimp only at hSw); go_simp <;> with_reducible rfl)
  (try simp only [Act.put,aT,aZ,aS])
  refine wT (i := 5) (v := ?_) rfl (.inl ⟨by rfl,?_⟩) ?_
  rotate_left
  · (intro w' hSw; (try dsimp only at hSw); go_simp <;> with_reducible rfl)
  (try simp only [Act.put,aT,aZ,aS])
  refine wT (i := 6) (v := ?_) rfl (.inl ⟨by rfl,?_⟩) ?_
  rotate_left
  · (intro w' hSw; (try dsimp only at hSw); (have q0 := hSw.1; have q1 := hSw.2.1); go_simp <;> with_reducible rfl)
  (try simp only [Act.put,aT,aZ,aS])
  refine wT (i := 7) (v := ?_) rfl (.inl ⟨by rfl,?_⟩) ?_
  rotate_left
  · (intro w' hSw; (try dsimp only at hSw); go_simp <;> with_reducible rfl)
  (try simp only [Act.put,aT,aZ,aS])
  refine wT (i := 8) (v := ?_) rfl (.inl ⟨by rfl,?_⟩) ?_
  rotate_left
  · (intro w' hSw; (try dsimp only at hSw); go_simp <;> with_reducible rfl)
  (try simp only [Act.put,aT,aZ,aS])
  refine wT (i := 9) (v := ?_) rfl (.inl ⟨by rfl,?_⟩) ?_
  rotate_left
  · (intro w' hSw; (try dsimp only at hSw); (have q0 := hSw.2.2.1; have q1 := hSw.2.2.2.1); go_simp <;> with_reducible rfl)
  (try simp only [Act.put,aT,aZ,aS])
  refine wT (i := 10) (v := ?_) rfl (.inl ⟨by rfl,?_⟩) ?_
  rotate_left
  · (intro w' hSw; (try dsimp only at hSw); go_simp <;> with_reducible rfl)
  (try simp only [Act.put,aT,aZ,aS])
  refine wT (i := 11) (v := ?_) rfl (.inl ⟨by rfl,?_⟩) ?_
  rotate_left
  · (intro w' hSw; (try dsimp only at hSw); go_simp <;> with_reducible rfl)
  (try simp only [Act.put,aT,aZ,aS])
  refine wT (i := 12) (v := ?_) rfl (.inl ⟨by rfl,?_⟩) ?_
  rotate_left
  · (intro w' hSw; (try dsimp only at hSw); (have q0 := hSw.2.2.2.2.1; have q1 := hSw.2.2.2.2.2.1); go_simp <;> with_reducible rfl)
  (try simp only [Act.put,aT,aZ,aS])
  refine wT (i := 13) (v := ?_) rfl (.inl ⟨by rfl,?_⟩) ?_
  rotate_left
  · (intro w' hSw; (try dsimp only at hSw); go_simp <;> with_reducible rfl)
  (try simp only [Act.put,aT,aZ,aS])
  refine wT (i := 14) (v := ?_) rfl (.inl ⟨by rfl,?_⟩) ?_
  rotate_left
  · (intro w' hSw; (try dsimp only at hSw); go_simp <;> with_reducible rfl)
  (try simp only [Act.put,aT,aZ,aS])
  refine wT (i := 15) (v := ?_) rfl (.inl ⟨by rfl,?_⟩) ?_
  rotate_left
  · (intro w' hSw; (try dsimp only at hSw); (have q0 := hSw.2.2.2.2.2.2.1; have q1 := hSw.2.2.2.2.2.2.2.1); go_simp <;> with_reducible rfl)
  (try simp only [Act.put,aT,aZ,aS])
  refine wT (i := 16) (v := ?_) rfl (.inl ⟨by rfl,?_⟩) ?_
  rotate_left
  · (intro w' hSw; (try dsimp only at hSw); go_simp <;> with_reducible rfl)
  (try simp only [Act.put,aT,aZ,aS])
  refine wT (i := 17) (v := ?_) rfl (.inl ⟨by rfl,?_⟩) ?_
  rotate_left
  · (intro w' hSw; (try dsimp only at hSw); go_simp <;> with_reducible rfl)
  (try simp only [Act.put,aT,aZ,aS])
  refine wT (i := 18) (v := ?_) rfl (.inl ⟨by rfl,?_⟩) ?_
  rotate_left
  · (intro w' hSw; (try dsimp only at hSw); go_simp <;> with_reducible rfl)
  (try simp only [Act.put,aT,aZ,aS])
  refine wpAnyH_ready (rs := [19]) (by kernel_rfl) (by simp) ?_
  refine AllReadyH.cons rfl (fun K hK => ?_) ?_
  · have f0 := hB.free 6
    have f1 := hB.free 7
    have z0 := hB.at_ 6 _ (Array.getElem?_eq_getElem (by simp [hcs]))
    have z1 := hB.at_ 7 _ (Array.getElem?_eq_getElem (by simp [hcs]))
    go_simp
    have hS_ : (fun w' => w'.cell? ⟨h,o,none⟩ = some (.int .i64 a0) ∧ w'.cell? ⟨h,o + 1,none⟩ = some (.int .i64 b0) ∧ w'.cell? ⟨h,o + 2,none⟩ = some (.int .i64 a1) ∧ w'.cell? ⟨h,o + 3,none⟩ = some (.int .i64 b1) ∧ w'.cell? ⟨h,o + 4,none⟩ = some (.int .i64 a2) ∧ w'.cell? ⟨h,o + 5,none⟩ = some (.int .i64 b2) ∧ w'.cell? ⟨h,o + 6,none⟩ = some (.int .i64 a3) ∧ w'.cell? ⟨h,o + 7,none⟩ = some (.int .i64 b3) ∧ w'.cell? ⟨h2,o2,none⟩ = some (.int .i64 le)) ((wd.setCell ⟨g,6,none⟩ (.int .i64 a0)).setCell ⟨g,7,none⟩ (.int .i64 b0)) := ⟨((cell_other _ g 7 h o _ (Ne.symm hg)).trans (cell_other wd g 6 h o _ (Ne.symm hg))).trans hS.1,((cell_other _ g 7 h (o + 1) _ (Ne.symm hg)).trans (cell_other wd g 6 h (o + 1) _ (Ne.symm hg))).trans hS.2.1,((cell_other _ g 7 h (o + 2) _ (Ne.symm hg)).trans (cell_other wd g 6 h (o + 2) _ (Ne.symm hg))).trans hS.2.2.1,((cell_other _ g 7 h (o + 3) _ (Ne.symm hg)).trans (cell_other wd g 6 h (o + 3) _ (Ne.symm hg))).trans hS.2.2.2.1,((cell_other _ g 7 h (o + 4) _ (Ne.symm hg)).trans (cell_other wd g 6 h (o + 4) _ (Ne.symm hg))).trans hS.2.2.2.2.1,((cell_other _ g 7 h (o + 5) _ (Ne.symm hg)).trans (cell_other wd g 6 h (o + 5) _ (Ne.symm hg))).trans hS.2.2.2.2.2.1,((cell_other _ g 7 h (o + 6) _ (Ne.symm hg)).trans (cell_other wd g 6 h (o + 6) _ (Ne.symm hg))).trans hS.2.2.2.2.2.2.1,((cell_other _ g 7 h (o + 7) _ (Ne.symm hg)).trans (cell_other wd g 6 h (o + 7) _ (Ne.symm hg))).trans hS.2.2.2.2.2.2.2.1,((cell_other _ g 7 h2 o2 _ (Ne.symm hg2)).trans (cell_other wd g 6 h2 o2 _ (Ne.symm hg2))).trans hS.2.2.2.2.2.2.2.2⟩
    have hB_ := (hB.put 6 (.int .i64 a0)).put 7 (.int .i64 b0)
    have hP_ := (hP.put1 6 (.int .i64 a0)).put1 7 (.int .i64 b0)
    refine hK.out _ _ hS_ (fun _ => ?_)
    clear f0 f1 z0 z1 hS hB hP
    have hS := hS_
    have hB := hB_
    have hP := hP_
    clear hS_ hB_ hP_
    generalize (wd.setCell _ _).setCell _ _ = wd at hS hB hP ⊢
    clear hK K
    (try simp only [Act.put,aT,aZ,aS])
    refine wT (i := 20) (v := ?_) rfl (.inl ⟨by rfl,?_⟩) ?_
    rotate_left
    · (intro w' hSw; (try dsimp only at hSw); go_simp <;> with_reducible rfl)
    (try simp only [Act.put,aT,aZ,aS])
    refine wT (i := 21) (v := ?_) rfl (.inl ⟨by rfl,?_⟩) ?_
    rotate_left
    · (intro w' hSw; (try dsimp only at hSw); go_simp <;> with_reducible rfl)
    (try simp only [Act.put,aT,aZ,aS])
    refine wT (i := 22) (v := ?_) rfl (.inl ⟨by rfl,?_⟩) ?_
    rotate_left
    · (intro w' hSw; (try dsimp only at hSw); go_simp <;> with_reducible rfl)
    (try simp only [Act.put,aT,aZ,aS])
    refine wpAnyH_ready (rs := [23]) (by kernel_rfl) (by simp) ?_
    refine AllReadyH.cons rfl (fun K hK => ?_) ?_
    · have f0 := hB.free 8
      have f1 := hB.free 9
      have z0 := hB.at_ 8 _ (Array.getElem?_eq_getElem (by simp [hcs]))
      have z1 := hB.at_ 9 _ (Array.getElem?_eq_getElem (by simp [hcs]))
      go_simp
      have hS_ : (fun w' => w'.cell? ⟨h,o,none⟩ = some (.int .i64 a0) ∧ w'.cell? ⟨h,o + 1,none⟩ = some (.int .i64 b0) ∧ w'.cell? ⟨h,o + 2,none⟩ = some (.int .i64 a1) ∧ w'.cell? ⟨h,o + 3,none⟩ = some (.int .i64 b1) ∧ w'.cell? ⟨h,o + 4,none⟩ = some (.int .i64 a2) ∧ w'.cell? ⟨h,o + 5,none⟩ = some (.int .i64 b2) ∧ w'.cell? ⟨h,o + 6,none⟩ = some (.int .i64 a3) ∧ w'.cell? ⟨h,o + 7,none⟩ = some (.int .i64 b3) ∧ w'.cell? ⟨h2,o2,none⟩ = some (.int .i64 le)) ((wd.setCell ⟨g,8,none⟩ (.int .i64 a1)).setCell ⟨g,9,none⟩ (.int .i64 b1)) := ⟨((cell_other _ g 9 h o _ (Ne.symm hg)).trans (cell_other wd g 8 h o _ (Ne.symm hg))).trans hS.1,((cell_other _ g 9 h (o + 1) _ (Ne.symm hg)).trans (cell_other wd g 8 h (o + 1) _ (Ne.symm hg))).trans hS.2.1,((cell_other _ g 9 h (o + 2) _ (Ne.symm hg)).trans (cell_other wd g 8 h (o + 2) _ (Ne.symm hg))).trans hS.2.2.1,((cell_other _ g 9 h (o + 3) _ (Ne.symm hg)).trans (cell_other wd g 8 h (o + 3) _ (Ne.symm hg))).trans hS.2.2.2.1,((cell_other _ g 9 h (o + 4) _ (Ne.symm hg)).trans (cell_other wd g 8 h (o + 4) _ (Ne.symm hg))).trans hS.2.2.2.2.1,((cell_other _ g 9 h (o + 5) _ (Ne.symm hg)).trans (cell_other wd g 8 h (o + 5) _ (Ne.symm hg))).trans hS.2.2.2.2.2.1,((cell_other _ g 9 h (o + 6) _ (Ne.symm hg)).trans (cell_other wd g 8 h (o + 6) _ (Ne.symm hg))).trans hS.2.2.2.2.2.2.1,((cell_other _ g 9 h (o + 7) _ (Ne.symm hg)).trans (cell_other wd g 8 h (o + 7) _ (Ne.symm hg))).trans hS.2.2.2.2.2.2.2.1,((cell_other _ g 9 h2 o2 _ (Ne.symm hg2)).trans (cell_other wd g 8 h2 o2 _ (Ne.symm hg2))).trans hS.2.2.2.2.2.2.2.2⟩
      have hB_ := (hB.put 8 (.int .i64 a1)).put 9 (.int .i64 b1)
      have hP_ := (hP.put1 8 (.int .i64 a1)).put1 9 (.int .i64 b1)
      refine hK.out _ _ hS_ (fun _ => ?_)
      clear f0 f1 z0 z1 hS hB hP
      have hS := hS_
      have hB := hB_
      have hP := hP_
      clear hS_ hB_ hP_
      generalize (wd.setCell _ _).setCell _ _ = wd at hS hB hP ⊢
      clear hK K
      (try simp only [Act.put,aT,aZ,aS])
      refine wT (i := 24) (v := ?_) rfl (.inl ⟨by rfl,?_⟩) ?_
      rotate_left
      · (intro w' hSw; (try dsimp only at hSw); go_simp <;> with_reducible rfl)
      (try simp only [Act.put,aT,aZ,aS])
      refine wT (i := 25) (v := ?_) rfl (.inl ⟨by rfl,?_⟩) ?_
      rotate_left
      · (intro w' hSw; (try dsimp only at hSw); go_simp <;> with_reducible rfl)
      (try simp only [Act.put,aT,aZ,aS])
      refine wT (i := 26) (v := ?_) rfl (.inl ⟨by rfl,?_⟩) ?_
      rotate_left
      · (intro w' hSw; (try dsimp only at hSw); go_simp <;> with_reducible rfl)
      (try simp only [Act.put,aT,aZ,aS])
      refine wpAnyH_ready (rs := [27]) (by kernel_rfl) (by simp) ?_
      refine AllReadyH.cons rfl (fun K hK => ?_) ?_
      · have f0 := hB.free 10
        have f1 := hB.free 11
        have z0 := hB.at_ 10 _ (Array.getElem?_eq_getElem (by simp [hcs]))
        have z1 := hB.at_ 11 _ (Array.getElem?_eq_getElem (by simp [hcs]))
        go_simp
        have hS_ : (fun w' => w'.cell? ⟨h,o,none⟩ = some (.int .i64 a0) ∧ w'.cell? ⟨h,o + 1,none⟩ = some (.int .i64 b0) ∧ w'.cell? ⟨h,o + 2,none⟩ = some (.int .i64 a1) ∧ w'.cell? ⟨h,o + 3,none⟩ = some (.int .i64 b1) ∧ w'.cell? ⟨h,o + 4,none⟩ = some (.int .i64 a2) ∧ w'.cell? ⟨h,o + 5,none⟩ = some (.int .i64 b2) ∧ w'.cell? ⟨h,o + 6,none⟩ = some (.int .i64 a3) ∧ w'.cell? ⟨h,o + 7,none⟩ = some (.int .i64 b3) ∧ w'.cell? ⟨h2,o2,none⟩ = some (.int .i64 le)) ((wd.setCell ⟨g,10,none⟩ (.int .i64 a2)).setCell ⟨g,11,none⟩ (.int .i64 b2)) := ⟨((cell_other _ g 11 h o _ (Ne.symm hg)).trans (cell_other wd g 10 h o _ (Ne.symm hg))).trans hS.1,((cell_other _ g 11 h (o + 1) _ (Ne.symm hg)).trans (cell_other wd g 10 h (o + 1) _ (Ne.symm hg))).trans hS.2.1,((cell_other _ g 11 h (o + 2) _ (Ne.symm hg)).trans (cell_other wd g 10 h (o + 2) _ (Ne.symm hg))).trans hS.2.2.1,((cell_other _ g 11 h (o + 3) _ (Ne.symm hg)).trans (cell_other wd g 10 h (o + 3) _ (Ne.symm hg))).trans hS.2.2.2.1,((cell_other _ g 11 h (o + 4) _ (Ne.symm hg)).trans (cell_other wd g 10 h (o + 4) _ (Ne.symm hg))).trans hS.2.2.2.2.1,((cell_other _ g 11 h (o + 5) _ (Ne.symm hg)).trans (cell_other wd g 10 h (o + 5) _ (Ne.symm hg))).trans hS.2.2.2.2.2.1,((cell_other _ g 11 h (o + 6) _ (Ne.symm hg)).trans (cell_other wd g 10 h (o + 6) _ (Ne.symm hg))).trans hS.2.2.2.2.2.2.1,((cell_other _ g 11 h (o + 7) _ (Ne.symm hg)).trans (cell_other wd g 10 h (o + 7) _ (Ne.symm hg))).trans hS.2.2.2.2.2.2.2.1,((cell_other _ g 11 h2 o2 _ (Ne.symm hg2)).trans (cell_other wd g 10 h2 o2 _ (Ne.symm hg2))).trans hS.2.2.2.2.2.2.2.2⟩
        have hB_ := (hB.put 10 (.int .i64 a2)).put 11 (.int .i64 b2)
        have hP_ := (hP.put1 10 (.int .i64 a2)).put1 11 (.int .i64 b2)
        refine hK.out _ _ hS_ (fun _ => ?_)
        clear f0 f1 z0 z1 hS hB hP
        have hS := hS_
        have hB := hB_
        have hP := hP_
        clear hS_ hB_ hP_
        generalize (wd.setCell _ _).setCell _ _ = wd at hS hB hP ⊢
        clear hK K
        (try simp only [Act.put,aT,aZ,aS])
        refine wT (i := 28) (v := ?_) rfl (.inl ⟨by rfl,?_⟩) ?_
        rotate_left
        · (intro w' hSw; (try dsimp only at hSw); go_simp <;> with_reducible rfl)
        (try simp only [Act.put,aT,aZ,aS])
        refine wT (i := 29) (v := ?_) rfl (.inl ⟨by rfl,?_⟩) ?_
        rotate_left
        · (intro w' hSw; (try dsimp only at hSw); go_simp <;> with_reducible rfl)
        (try simp only [Act.put,aT,aZ,aS])
        refine wT (i := 30) (v := ?_) rfl (.inl ⟨by rfl,?_⟩) ?_
        rotate_left
        · (intro w' hSw; (try dsimp only at hSw); go_simp <;> with_reducible rfl)
        (try simp only [Act.put,aT,aZ,aS])
        refine wpAnyH_ready (rs := [31]) (by kernel_rfl) (by simp) ?_
        refine AllReadyH.cons rfl (fun K hK => ?_) ?_
        · have f0 := hB.free 12
          have f1 := hB.free 13
          have z0 := hB.at_ 12 _ (Array.getElem?_eq_getElem (by simp [hcs]))
          have z1 := hB.at_ 13 _ (Array.getElem?_eq_getElem (by simp [hcs]))
          go_simp
          have hS_ : (fun w' => w'.cell? ⟨h,o,none⟩ = some (.int .i64 a0) ∧ w'.cell? ⟨h,o + 1,none⟩ = some (.int .i64 b0) ∧ w'.cell? ⟨h,o + 2,none⟩ = some (.int .i64 a1) ∧ w'.cell? ⟨h,o + 3,none⟩ = some (.int .i64 b1) ∧ w'.cell? ⟨h,o + 4,none⟩ = some (.int .i64 a2) ∧ w'.cell? ⟨h,o + 5,none⟩ = some (.int .i64 b2) ∧ w'.cell? ⟨h,o + 6,none⟩ = some (.int .i64 a3) ∧ w'.cell? ⟨h,o + 7,none⟩ = some (.int .i64 b3) ∧ w'.cell? ⟨h2,o2,none⟩ = some (.int .i64 le)) ((wd.setCell ⟨g,12,none⟩ (.int .i64 a3)).setCell ⟨g,13,none⟩ (.int .i64 b3)) := ⟨((cell_other _ g 13 h o _ (Ne.symm hg)).trans (cell_other wd g 12 h o _ (Ne.symm hg))).trans hS.1,((cell_other _ g 13 h (o + 1) _ (Ne.symm hg)).trans (cell_other wd g 12 h (o + 1) _ (Ne.symm hg))).trans hS.2.1,((cell_other _ g 13 h (o + 2) _ (Ne.symm hg)).trans (cell_other wd g 12 h (o + 2) _ (Ne.symm hg))).trans hS.2.2.1,((cell_other _ g 13 h (o + 3) _ (Ne.symm hg)).trans (cell_other wd g 12 h (o + 3) _ (Ne.symm hg))).trans hS.2.2.2.1,((cell_other _ g 13 h (o + 4) _ (Ne.symm hg)).trans (cell_other wd g 12 h (o + 4) _ (Ne.symm hg))).trans hS.2.2.2.2.1,((cell_other _ g 13 h (o + 5) _ (Ne.symm hg)).trans (cell_other wd g 12 h (o + 5) _ (Ne.symm hg))).trans hS.2.2.2.2.2.1,((cell_other _ g 13 h (o + 6) _ (Ne.symm hg)).trans (cell_other wd g 12 h (o + 6) _ (Ne.symm hg))).trans hS.2.2.2.2.2.2.1,((cell_other _ g 13 h (o + 7) _ (Ne.symm hg)).trans (cell_other wd g 12 h (o + 7) _ (Ne.symm hg))).trans hS.2.2.2.2.2.2.2.1,((cell_other _ g 13 h2 o2 _ (Ne.symm hg2)).trans (cell_other wd g 12 h2 o2 _ (Ne.symm hg2))).trans hS.2.2.2.2.2.2.2.2⟩
          have hB_ := (hB.put 12 (.int .i64 a3)).put 13 (.int .i64 b3)
          have hP_ := (hP.put1 12 (.int .i64 a3)).put1 13 (.int .i64 b3)
          refine hK.out _ _ hS_ (fun _ => ?_)
          clear f0 f1 z0 z1 hS hB hP
          have hS := hS_
          have hB := hB_
          have hP := hP_
          clear hS_ hB_ hP_
          generalize (wd.setCell _ _).setCell _ _ = wd at hS hB hP ⊢
          clear hK K
          (try simp only [Act.put,aT,aZ,aS])
          refine wpAnyH_done (by kernel_rfl) ?_ _
          exact ⟨rfl,_,_,_,_,_,_,_,_,_,_,_,_,_,_,_,_,_,_,_,_,_,_,_,_,_,_,_,_,rfl,hB,hP,hS⟩
        exact AllReadyH.nil
      exact AllReadyH.nil
    exact AllReadyH.nil
  exact AllReadyH.nil
end Go.Proofs.YtljefjngmembkaaGreatDoor
namespace Go.Proofs.YtljefjngmembkaaGreatDoor
set_option linter.all false
open Go.RowKit
end Go.Proofs.YtljefjngmembkaaGreatDoor
namespace Go.Proofs.YtljefjngmembkaaGreatDoor
set_option linter.all false
open Go
def sndB : Code → Code
  | .seq _ b => b
  | c => c
end Go.Proofs.YtljefjngmembkaaGreatDoor
