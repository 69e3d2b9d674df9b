/- Part 21 of the proof: TxS. -/
import Derived.Test.YtljefjngmembkaaGreatDoorW20
/- parse: its region that draws, where it is, how it ends. -/
namespace Go.Proofs.YtljefjngmembkaaGreatDoor
set_option linter.all false
open Go.RowKit Go.Lib
set_option maxHeartbeats 2000000 in
set_option maxRecDepth 1000000 in
theorem par60 {rb pb m : Nat} {w : World} {Q : Exit → Act → World → Prop} {u0 u1 u2 u3 u5 u6 u7 u9 u10 u11 u12 u13 u14 u15 u16 u17 u18 u19 u20 u21 u22 u23 u24 u25 u26 u27 u28 u29 u30 u31 u32 u33 u34 u35 u36 u37 u38 u39 u40 u41 u42 u43 u44 u45 u46 u47 u48 u49 u50 u51 u52 u53 u54 u55 u56 u57 u58 u59 u60 u61 u62 u63 : Value} (hb : Bk w rb 116 rulesC.toArray) (hK : ∀ (w' : World), Below w.heap.size w w' → ∀ (v21 v22 v23 v24 v25 v26 v27 v28 v29 v30 v31 v32 v33 : Value), Q .normal ⟨#[u0, u1, u2, u3, (.slice (some ⟨rb, 0, none⟩) 4 4), u5, u6, u7, (.slice (some ⟨pb, 0, none⟩) (m + 1) (m + 1)), u9, u10, u11, u12, u13, u14, u15, u16, u17, u18, u19, u20, v21, v22, v23, v24, v25, v26, v27, v28, v29, v30, v31, v32, v33, (.bool false), u35, u36, u37, u38, u39, u40, u41, u42, u43, u44, u45, u46, u47, u48, u49, u50, u51, u52, u53, u54, u55, u56, u57, u58, u59, u60, u61, u62, u63], []⟩ w') : Code.wp Tryz.prog (Code.region 6 #[⟨some 21, .move (.tmp 4), 109, "text.go:81", #[], none⟩, ⟨some 22, .indexAddr 109 (.tmp 21) (.const (.int .i64 0)), 0, "text.go:81", #[⟨0, .data⟩], none⟩, ⟨some 23, .fieldAddr 116 (.tmp 22) 1, 0, "text.go:81", #[⟨1, .data⟩], none⟩, ⟨some 24, .load 4 (.tmp 23), 4, "text.go:81", #[⟨2, .data⟩], none⟩, ⟨some 25, .move (.tmp 24), 4, "text.go:81", #[⟨3, .data⟩], none⟩, ⟨some 26, .move (.tmp 8), 37, "text.go:81", #[⟨4, .guard⟩], some (4, true)⟩, ⟨some 27, .indexAddr 37 (.tmp 26) (.const (.int .i64 0)), 0, "text.go:81", #[⟨5, .data⟩, ⟨4, .guard⟩], some (4, true)⟩, ⟨some 28, .load 9 (.tmp 27), 9, "text.go:81", #[⟨6, .data⟩, ⟨4, .guard⟩], some (4, true)⟩, ⟨some 29, .move (.tmp 4), 109, "text.go:81", #[⟨4, .guard⟩], some (4, true)⟩, ⟨some 30, .indexAddr 109 (.tmp 29) (.const (.int .i64 0)), 0, "text.go:81", #[⟨8, .data⟩, ⟨4, .guard⟩], some (4, true)⟩, ⟨some 31, .fieldAddr 116 (.tmp 30) 0, 0, "text.go:81", #[⟨9, .data⟩, ⟨4, .guard⟩], some (4, true)⟩, ⟨some 32, .load 9 (.tmp 31), 9, "text.go:81", #[⟨10, .data⟩, ⟨4, .guard⟩], some (4, true)⟩, ⟨some 33, .binOp .neq 9 (.tmp 28) (.tmp 32) 9, 4, "text.go:81", #[⟨7, .data⟩, ⟨11, .data⟩, ⟨4, .guard⟩], some (4, true)⟩, ⟨some 34, .pick (.tmp 25) (.tmp 33) (.const (.bool false)), 4, "text.go:81", #[⟨4, .data⟩, ⟨12, .data⟩], none⟩] true) Q ⟨#[u0, u1, u2, u3, (.slice (some ⟨rb, 0, none⟩) 4 4), u5, u6, u7, (.slice (some ⟨pb, 0, none⟩) (m + 1) (m + 1)), u9, u10, u11, u12, u13, u14, u15, u16, u17, u18, u19, u20, u21, u22, u23, u24, u25, u26, u27, u28, u29, u30, u31, u32, u33, u34, u35, u36, u37, u38, u39, u40, u41, u42, u43, u44, u45, u46, u47, u48, u49, u50, u51, u52, u53, u54, u55, u56, u57, u58, u59, u60, u61, u62, u63], []⟩ w := by
  refine region_via (R := fun a_ e_ a' w' => e_ = .normal ∧ ∃ (v21 v22 v23 v24 v25 v26 v27 v28 v29 v30 v31 v32 v33 : Value), a' = ((((((((((((((a_.put (some 21) v21).put (some 22) v22).put (some 23) v23).put (some 24) v24).put (some 25) v25).put (some 26) v26).put (some 27) v27).put (some 28) v28).put (some 29) v29).put (some 30) v30).put (some 31) v31).put (some 32) v32).put (some 33) v33).put (some 34) (.bool false)) ∧ Below w.heap.size w w') ?_ ?_
  rotate_left
  · rintro e_ a' w' ⟨rfl, v21, v22, v23, v24, v25, v26, v27, v28, v29, v30, v31, v32, v33, rfl, h1⟩
    simp only [Act.put, List.setIfInBounds_toArray, List.set_cons_zero, List.set_cons_succ]
    exact hK _ h1 _ _ _ _ _ _ _ _ _ _ _ _ _ 
  have hS : (fun w' => Below w.heap.size w w' ∧ Bk w' rb 116 rulesC.toArray) w.drew := ⟨(Below.refl _ _).drew, hb⟩
  refine wp_region_held_drew (S := (fun w' => Below w.heap.size w w' ∧ Bk w' rb 116 rulesC.toArray)) (by kernel_rfl) hS (fun hS0 => ?_)
  clear hS0
  generalize w.drew = wd at hS ⊢
  refine wpAnyH_take (i := 0) (oi := ⟨some 21, .move (.tmp 4), 109, "text.go:81", #[], none⟩) (v := ?_) rfl (by kernel_rfl) (by kernel_rfl) (by kernel_rfl) (fun _ _ _ h => by cases h.1) (.inl ⟨by rfl, ?_⟩) (by assumption) ?_
  rotate_left
  · (intro w' hSw; (try dsimp only at hSw); skip; go_simp <;> with_reducible rfl)
  (try simp only [Act.put, List.setIfInBounds_toArray, List.set_cons_zero, List.set_cons_succ])
  refine wpAnyH_take (i := 1) (oi := ⟨some 22, .indexAddr 109 (.tmp 21) (.const (.int .i64 0)), 0, "text.go:81", #[⟨0, .data⟩], none⟩) (v := ?_) rfl (by kernel_rfl) (by kernel_rfl) (by kernel_rfl) (fun _ _ _ h => by cases h.1) (.inl ⟨by rfl, ?_⟩) (by assumption) ?_
  rotate_left
  · (intro w' hSw; (try dsimp only at hSw); skip; go_simp <;> with_reducible rfl)
  (try simp only [Act.put, List.setIfInBounds_toArray, List.set_cons_zero, List.set_cons_succ])
  refine wpAnyH_take (i := 2) (oi := ⟨some 23, .fieldAddr 116 (.tmp 22) 1, 0, "text.go:81", #[⟨1, .data⟩], none⟩) (v := ?_) rfl (by kernel_rfl) (by kernel_rfl) (by kernel_rfl) (fun _ _ _ h => by cases h.1) (.inl ⟨by rfl, ?_⟩) (by assumption) ?_
  rotate_left
  · (intro w' hSw; (try dsimp only at hSw); skip; go_simp <;> with_reducible rfl)
  (try simp only [Act.put, List.setIfInBounds_toArray, List.set_cons_zero, List.set_cons_succ])
  refine wpAnyH_take (i := 3) (oi := ⟨some 24, .load 4 (.tmp 23), 4, "text.go:81", #[⟨2, .data⟩], none⟩) (v := ?_) rfl (by kernel_rfl) (by kernel_rfl) (by kernel_rfl) (fun _ _ _ h => by cases h.1) (.inl ⟨by rfl, ?_⟩) (by assumption) ?_
  rotate_left
  · (intro w' hSw; (try dsimp only at hSw); have q0 := hSw.2.at_ 1 (.bool false) rfl; go_simp <;> with_reducible rfl)
  (try simp only [Act.put, List.setIfInBounds_toArray, List.set_cons_zero, List.set_cons_succ])
  refine wpAnyH_take (i := 4) (oi := ⟨some 25, .move (.tmp 24), 4, "text.go:81", #[⟨3, .data⟩], none⟩) (v := ?_) rfl (by kernel_rfl) (by kernel_rfl) (by kernel_rfl) (fun _ _ _ h => by cases h.1) (.inl ⟨by rfl, ?_⟩) (by assumption) ?_
  rotate_left
  · (intro w' hSw; (try dsimp only at hSw); skip; go_simp <;> with_reducible rfl)
  (try simp only [Act.put, List.setIfInBounds_toArray, List.set_cons_zero, List.set_cons_succ])
  refine wpAnyH_take (i := 5) (oi := ⟨some 26, .move (.tmp 8), 37, "text.go:81", #[⟨4, .guard⟩], some (4, true)⟩) (v := undef) rfl (by kernel_rfl) (by kernel_rfl) (by kernel_rfl) (fun _ _ _ h => by cases h.1) (.inr ⟨by rfl, rfl⟩) (by assumption) ?_
  (try simp only [Act.put, List.setIfInBounds_toArray, List.set_cons_zero, List.set_cons_succ])
  refine wpAnyH_take (i := 6) (oi := ⟨some 27, .indexAddr 37 (.tmp 26) (.const (.int .i64 0)), 0, "text.go:81", #[⟨5, .data⟩, ⟨4, .guard⟩], some (4, true)⟩) (v := undef) rfl (by kernel_rfl) (by kernel_rfl) (by kernel_rfl) (fun _ _ _ h => by cases h.1) (.inr ⟨by rfl, rfl⟩) (by assumption) ?_
  (try simp only [Act.put, List.setIfInBounds_toArray, List.set_cons_zero, List.set_cons_succ])
  refine wpAnyH_take (i := 7) (oi := ⟨some 28, .load 9 (.tmp 27), 9, "text.go:81", #[⟨6, .data⟩, ⟨4, .guard⟩], some (4, true)⟩) (v := undef) rfl (by kernel_rfl) (by kernel_rfl) (by kernel_rfl) (fun _ _ _ h => by cases h.1) (.inr ⟨by rfl, rfl⟩) (by assumption) ?_
  (try simp only [Act.put, List.setIfInBounds_toArray, List.set_cons_zero, List.set_cons_succ])
  refine wpAnyH_take (i := 8) (oi := ⟨some 29, .move (.tmp 4), 109, "text.go:81", #[⟨4, .guard⟩], some (4, true)⟩) (v := undef) rfl (by kernel_rfl) (by kernel_rfl) (by kernel_rfl) (fun _ _ _ h => by cases h.1) (.inr ⟨by rfl, rfl⟩) (by assumption) ?_
  (try simp only [Act.put, List.setIfInBounds_toArray, List.set_cons_zero, List.set_cons_succ])
  refine wpAnyH_take (i := 9) (oi := ⟨some 30, .indexAddr 109 (.tmp 29) (.const (.int .i64 0)), 0, "text.go:81", #[⟨8, .data⟩, ⟨4, .guard⟩], some (4, true)⟩) (v := undef) rfl (by kernel_rfl) (by kernel_rfl) (by kernel_rfl) (fun _ _ _ h => by cases h.1) (.inr ⟨by rfl, rfl⟩) (by assumption) ?_
  (try simp only [Act.put, List.setIfInBounds_toArray, List.set_cons_zero, List.set_cons_succ])
  refine wpAnyH_take (i := 10) (oi := ⟨some 31, .fieldAddr 116 (.tmp 30) 0, 0, "text.go:81", #[⟨9, .data⟩, ⟨4, .guard⟩], some (4, true)⟩) (v := undef) rfl (by kernel_rfl) (by kernel_rfl) (by kernel_rfl) (fun _ _ _ h => by cases h.1) (.inr ⟨by rfl, rfl⟩) (by assumption) ?_
  (try simp only [Act.put, List.setIfInBounds_toArray, List.set_cons_zero, List.set_cons_succ])
  refine wpAnyH_take (i := 11) (oi := ⟨some 32, .load 9 (.tmp 31), 9, "text.go:81", #[⟨10, .data⟩, ⟨4, .guard⟩], some (4, true)⟩) (v := undef) rfl (by kernel_rfl) (by kernel_rfl) (by kernel_rfl) (fun _ _ _ h => by cases h.1) (.inr ⟨by rfl, rfl⟩) (by assumption) ?_
  (try simp only [Act.put, List.setIfInBounds_toArray, List.set_cons_zero, List.set_cons_succ])
  refine wpAnyH_take (i := 12) (oi := ⟨some 33, .binOp .neq 9 (.tmp 28) (.tmp 32) 9, 4, "text.go:81", #[⟨7, .data⟩, ⟨11, .data⟩, ⟨4, .guard⟩], some (4, true)⟩) (v := undef) rfl (by kernel_rfl) (by kernel_rfl) (by kernel_rfl) (fun _ _ _ h => by cases h.1) (.inr ⟨by rfl, rfl⟩) (by assumption) ?_
  (try simp only [Act.put, List.setIfInBounds_toArray, List.set_cons_zero, List.set_cons_succ])
  refine wpAnyH_take (i := 13) (oi := ⟨some 34, .pick (.tmp 25) (.tmp 33) (.const (.bool false)), 4, "text.go:81", #[⟨4, .data⟩, ⟨12, .data⟩], none⟩) (v := ?_) rfl (by kernel_rfl) (by kernel_rfl) (by kernel_rfl) (fun _ _ _ h => by cases h.1) (.inl ⟨by rfl, ?_⟩) (by assumption) ?_
  rotate_left
  · (intro w' hSw; (try dsimp only at hSw); skip; go_simp <;> with_reducible rfl)
  (try simp only [Act.put, List.setIfInBounds_toArray, List.set_cons_zero, List.set_cons_succ])
  refine wpAnyH_done (by kernel_rfl) ?_ _
  exact ⟨rfl, _, _, _, _, _, _, _, _, _, _, _, _, _, rfl, hS.1⟩
set_option maxHeartbeats 2000000 in
set_option maxRecDepth 1000000 in
theorem par61 {rb pb m : Nat} {w : World} {Q : Exit → Act → World → Prop} {u0 u1 u2 u3 u5 u6 u7 u9 u10 u11 u12 u13 u14 u15 u16 u17 u18 u19 u20 u21 u22 u23 u24 u25 u26 u27 u28 u29 u30 u31 u32 u33 u34 u35 u36 u37 u38 u39 u40 u41 u42 u43 u44 u45 u46 u47 u48 u49 u50 u51 u52 u53 u54 u55 u56 u57 u58 u59 u60 u61 u62 u63 : Value} (hb : Bk w rb 116 rulesC.toArray) (hK : ∀ (w' : World), Below w.heap.size w w' → ∀ (v21 v22 v23 v24 v25 v26 v27 v28 v29 v30 v31 v32 v33 : Value), Q .normal ⟨#[u0, u1, u2, u3, (.slice (some ⟨rb, 5, none⟩) 3 3), u5, u6, u7, (.slice (some ⟨pb, 0, none⟩) (m + 1) (m + 1)), u9, u10, u11, u12, u13, u14, u15, u16, u17, u18, u19, u20, v21, v22, v23, v24, v25, v26, v27, v28, v29, v30, v31, v32, v33, (.bool false), u35, u36, u37, u38, u39, u40, u41, u42, u43, u44, u45, u46, u47, u48, u49, u50, u51, u52, u53, u54, u55, u56, u57, u58, u59, u60, u61, u62, u63], []⟩ w') : Code.wp Tryz.prog (Code.region 6 #[⟨some 21, .move (.tmp 4), 109, "text.go:81", #[], none⟩, ⟨some 22, .indexAddr 109 (.tmp 21) (.const (.int .i64 0)), 0, "text.go:81", #[⟨0, .data⟩], none⟩, ⟨some 23, .fieldAddr 116 (.tmp 22) 1, 0, "text.go:81", #[⟨1, .data⟩], none⟩, ⟨some 24, .load 4 (.tmp 23), 4, "text.go:81", #[⟨2, .data⟩], none⟩, ⟨some 25, .move (.tmp 24), 4, "text.go:81", #[⟨3, .data⟩], none⟩, ⟨some 26, .move (.tmp 8), 37, "text.go:81", #[⟨4, .guard⟩], some (4, true)⟩, ⟨some 27, .indexAddr 37 (.tmp 26) (.const (.int .i64 0)), 0, "text.go:81", #[⟨5, .data⟩, ⟨4, .guard⟩], some (4, true)⟩, ⟨some 28, .load 9 (.tmp 27), 9, "text.go:81", #[⟨6, .data⟩, ⟨4, .guard⟩], some (4, true)⟩, ⟨some 29, .move (.tmp 4), 109, "text.go:81", #[⟨4, .guard⟩], some (4, true)⟩, ⟨some 30, .indexAddr 109 (.tmp 29) (.const (.int .i64 0)), 0, "text.go:81", #[⟨8, .data⟩, ⟨4, .guard⟩], some (4, true)⟩, ⟨some 31, .fieldAddr 116 (.tmp 30) 0, 0, "text.go:81", #[⟨9, .data⟩, ⟨4, .guard⟩], some (4, true)⟩, ⟨some 32, .load 9 (.tmp 31), 9, "text.go:81", #[⟨10, .data⟩, ⟨4, .guard⟩], some (4, true)⟩, ⟨some 33, .binOp .neq 9 (.tmp 28) (.tmp 32) 9, 4, "text.go:81", #[⟨7, .data⟩, ⟨11, .data⟩, ⟨4, .guard⟩], some (4, true)⟩, ⟨some 34, .pick (.tmp 25) (.tmp 33) (.const (.bool false)), 4, "text.go:81", #[⟨4, .data⟩, ⟨12, .data⟩], none⟩] true) Q ⟨#[u0, u1, u2, u3, (.slice (some ⟨rb, 5, none⟩) 3 3), u5, u6, u7, (.slice (some ⟨pb, 0, none⟩) (m + 1) (m + 1)), u9, u10, u11, u12, u13, u14, u15, u16, u17, u18, u19, u20, u21, u22, u23, u24, u25, u26, u27, u28, u29, u30, u31, u32, u33, u34, u35, u36, u37, u38, u39, u40, u41, u42, u43, u44, u45, u46, u47, u48, u49, u50, u51, u52, u53, u54, u55, u56, u57, u58, u59, u60, u61, u62, u63], []⟩ w := by
  refine region_via (R := fun a_ e_ a' w' => e_ = .normal ∧ ∃ (v21 v22 v23 v24 v25 v26 v27 v28 v29 v30 v31 v32 v33 : Value), a' = ((((((((((((((a_.put (some 21) v21).put (some 22) v22).put (some 23) v23).put (some 24) v24).put (some 25) v25).put (some 26) v26).put (some 27) v27).put (some 28) v28).put (some 29) v29).put (some 30) v30).put (some 31) v31).put (some 32) v32).put (some 33) v33).put (some 34) (.bool false)) ∧ Below w.heap.size w w') ?_ ?_
  rotate_left
  · rintro e_ a' w' ⟨rfl, v21, v22, v23, v24, v25, v26, v27, v28, v29, v30, v31, v32, v33, rfl, h1⟩
    simp only [Act.put, List.setIfInBounds_toArray, List.set_cons_zero, List.set_cons_succ]
    exact hK _ h1 _ _ _ _ _ _ _ _ _ _ _ _ _ 
  have hS : (fun w' => Below w.heap.size w w' ∧ Bk w' rb 116 rulesC.toArray) w.drew := ⟨(Below.refl _ _).drew, hb⟩
  refine wp_region_held_drew (S := (fun w' => Below w.heap.size w w' ∧ Bk w' rb 116 rulesC.toArray)) (by kernel_rfl) hS (fun hS0 => ?_)
  clear hS0
  generalize w.drew = wd at hS ⊢
  refine wpAnyH_take (i := 0) (oi := ⟨some 21, .move (.tmp 4), 109, "text.go:81", #[], none⟩) (v := ?_) rfl (by kernel_rfl) (by kernel_rfl) (by kernel_rfl) (fun _ _ _ h => by cases h.1) (.inl ⟨by rfl, ?_⟩) (by assumption) ?_
  rotate_left
  · (intro w' hSw; (try dsimp only at hSw); skip; go_simp <;> with_reducible rfl)
  (try simp only [Act.put, List.setIfInBounds_toArray, List.set_cons_zero, List.set_cons_succ])
  refine wpAnyH_take (i := 1) (oi := ⟨some 22, .indexAddr 109 (.tmp 21) (.const (.int .i64 0)), 0, "text.go:81", #[⟨0, .data⟩], none⟩) (v := ?_) rfl (by kernel_rfl) (by kernel_rfl) (by kernel_rfl) (fun _ _ _ h => by cases h.1) (.inl ⟨by rfl, ?_⟩) (by assumption) ?_
  rotate_left
  · (intro w' hSw; (try dsimp only at hSw); skip; go_simp <;> with_reducible rfl)
  (try simp only [Act.put, List.setIfInBounds_toArray, List.set_cons_zero, List.set_cons_succ])
  refine wpAnyH_take (i := 2) (oi := ⟨some 23, .fieldAddr 116 (.tmp 22) 1, 0, "text.go:81", #[⟨1, .data⟩], none⟩) (v := ?_) rfl (by kernel_rfl) (by kernel_rfl) (by kernel_rfl) (fun _ _ _ h => by cases h.1) (.inl ⟨by rfl, ?_⟩) (by assumption) ?_
  rotate_left
  · (intro w' hSw; (try dsimp only at hSw); skip; go_simp <;> with_reducible rfl)
  (try simp only [Act.put, List.setIfInBounds_toArray, List.set_cons_zero, List.set_cons_succ])
  refine wpAnyH_take (i := 3) (oi := ⟨some 24, .load 4 (.tmp 23), 4, "text.go:81", #[⟨2, .data⟩], none⟩) (v := ?_) rfl (by kernel_rfl) (by kernel_rfl) (by kernel_rfl) (fun _ _ _ h => by cases h.1) (.inl ⟨by rfl, ?_⟩) (by assumption) ?_
  rotate_left
  · (intro w' hSw; (try dsimp only at hSw); have q0 := hSw.2.at_ 6 (.bool false) rfl; go_simp <;> with_reducible rfl)
  (try simp only [Act.put, List.setIfInBounds_toArray, List.set_cons_zero, List.set_cons_succ])
  refine wpAnyH_take (i := 4) (oi := ⟨some 25, .move (.tmp 24), 4, "text.go:81", #[⟨3, .data⟩], none⟩) (v := ?_) rfl (by kernel_rfl) (by kernel_rfl) (by kernel_rfl) (fun _ _ _ h => by cases h.1) (.inl ⟨by rfl, ?_⟩) (by assumption) ?_
  rotate_left
  · (intro w' hSw; (try dsimp only at hSw); skip; go_simp <;> with_reducible rfl)
  (try simp only [Act.put, List.setIfInBounds_toArray, List.set_cons_zero, List.set_cons_succ])
  refine wpAnyH_take (i := 5) (oi := ⟨some 26, .move (.tmp 8), 37, "text.go:81", #[⟨4, .guard⟩], some (4, true)⟩) (v := undef) rfl (by kernel_rfl) (by kernel_rfl) (by kernel_rfl) (fun _ _ _ h => by cases h.1) (.inr ⟨by rfl, rfl⟩) (by assumption) ?_
  (try simp only [Act.put, List.setIfInBounds_toArray, List.set_cons_zero, List.set_cons_succ])
  refine wpAnyH_take (i := 6) (oi := ⟨some 27, .indexAddr 37 (.tmp 26) (.const (.int .i64 0)), 0, "text.go:81", #[⟨5, .data⟩, ⟨4, .guard⟩], some (4, true)⟩) (v := undef) rfl (by kernel_rfl) (by kernel_rfl) (by kernel_rfl) (fun _ _ _ h => by cases h.1) (.inr ⟨by rfl, rfl⟩) (by assumption) ?_
  (try simp only [Act.put, List.setIfInBounds_toArray, List.set_cons_zero, List.set_cons_succ])
  refine wpAnyH_take (i := 7) (oi := ⟨some 28, .load 9 (.tmp 27), 9, "text.go:81", #[⟨6, .data⟩, ⟨4, .guard⟩], some (4, true)⟩) (v := undef) rfl (by kernel_rfl) (by kernel_rfl) (by kernel_rfl) (fun _ _ _ h => by cases h.1) (.inr ⟨by rfl, rfl⟩) (by assumption) ?_
  (try simp only [Act.put, List.setIfInBounds_toArray, List.set_cons_zero, List.set_cons_succ])
  refine wpAnyH_take (i := 8) (oi := ⟨some 29, .move (.tmp 4), 109, "text.go:81", #[⟨4, .guard⟩], some (4, true)⟩) (v := undef) rfl (by kernel_rfl) (by kernel_rfl) (by kernel_rfl) (fun _ _ _ h => by cases h.1) (.inr ⟨by rfl, rfl⟩) (by assumption) ?_
  (try simp only [Act.put, List.setIfInBounds_toArray, List.set_cons_zero, List.set_cons_succ])
  refine wpAnyH_take (i := 9) (oi := ⟨some 30, .indexAddr 109 (.tmp 29) (.const (.int .i64 0)), 0, "text.go:81", #[⟨8, .data⟩, ⟨4, .guard⟩], some (4, true)⟩) (v := undef) rfl (by kernel_rfl) (by kernel_rfl) (by kernel_rfl) (fun _ _ _ h => by cases h.1) (.inr ⟨by rfl, rfl⟩) (by assumption) ?_
  (try simp only [Act.put, List.setIfInBounds_toArray, List.set_cons_zero, List.set_cons_succ])
  refine wpAnyH_take (i := 10) (oi := ⟨some 31, .fieldAddr 116 (.tmp 30) 0, 0, "text.go:81", #[⟨9, .data⟩, ⟨4, .guard⟩], some (4, true)⟩) (v := undef) rfl (by kernel_rfl) (by kernel_rfl) (by kernel_rfl) (fun _ _ _ h => by cases h.1) (.inr ⟨by rfl, rfl⟩) (by assumption) ?_
  (try simp only [Act.put, List.setIfInBounds_toArray, List.set_cons_zero, List.set_cons_succ])
  refine wpAnyH_take (i := 11) (oi := ⟨some 32, .load 9 (.tmp 31), 9, "text.go:81", #[⟨10, .data⟩, ⟨4, .guard⟩], some (4, true)⟩) (v := undef) rfl (by kernel_rfl) (by kernel_rfl) (by kernel_rfl) (fun _ _ _ h => by cases h.1) (.inr ⟨by rfl, rfl⟩) (by assumption) ?_
  (try simp only [Act.put, List.setIfInBounds_toArray, List.set_cons_zero, List.set_cons_succ])
  refine wpAnyH_take (i := 12) (oi := ⟨some 33, .binOp .neq 9 (.tmp 28) (.tmp 32) 9, 4, "text.go:81", #[⟨7, .data⟩, ⟨11, .data⟩, ⟨4, .guard⟩], some (4, true)⟩) (v := undef) rfl (by kernel_rfl) (by kernel_rfl) (by kernel_rfl) (fun _ _ _ h => by cases h.1) (.inr ⟨by rfl, rfl⟩) (by assumption) ?_
  (try simp only [Act.put, List.setIfInBounds_toArray, List.set_cons_zero, List.set_cons_succ])
  refine wpAnyH_take (i := 13) (oi := ⟨some 34, .pick (.tmp 25) (.tmp 33) (.const (.bool false)), 4, "text.go:81", #[⟨4, .data⟩, ⟨12, .data⟩], none⟩) (v := ?_) rfl (by kernel_rfl) (by kernel_rfl) (by kernel_rfl) (fun _ _ _ h => by cases h.1) (.inl ⟨by rfl, ?_⟩) (by assumption) ?_
  rotate_left
  · (intro w' hSw; (try dsimp only at hSw); skip; go_simp <;> with_reducible rfl)
  (try simp only [Act.put, List.setIfInBounds_toArray, List.set_cons_zero, List.set_cons_succ])
  refine wpAnyH_done (by kernel_rfl) ?_ _
  exact ⟨rfl, _, _, _, _, _, _, _, _, _, _, _, _, _, rfl, hS.1⟩
set_option maxHeartbeats 2000000 in
set_option maxRecDepth 1000000 in
theorem par62 {rb pb m : Nat} {w : World} {Q : Exit → Act → World → Prop} {u0 u1 u2 u3 u5 u6 u7 u9 u10 u11 u12 u13 u14 u15 u16 u17 u18 u19 u20 u21 u22 u23 u24 u25 u26 u27 u28 u29 u30 u31 u32 u33 u34 u35 u36 u37 u38 u39 u40 u41 u42 u43 u44 u45 u46 u47 u48 u49 u50 u51 u52 u53 u54 u55 u56 u57 u58 u59 u60 u61 u62 u63 : Value} (hb : Bk w rb 116 rulesC.toArray) {x0 : ByteArray} (hp : w.cell? ⟨pb, 0, none⟩ = some (.string x0)) {bq : Bool} (hq : (!(x0.toList == (bt shiftW).toList)) = bq) (hK : ∀ (w' : World), Below w.heap.size w w' → ∀ (v21 v22 v23 v24 v25 v26 v27 v28 v29 v30 v31 v32 v33 : Value), Q .normal ⟨#[u0, u1, u2, u3, (.slice (some ⟨rb, 10, none⟩) 2 2), u5, u6, u7, (.slice (some ⟨pb, 0, none⟩) (m + 1) (m + 1)), u9, u10, u11, u12, u13, u14, u15, u16, u17, u18, u19, u20, v21, v22, v23, v24, v25, v26, v27, v28, v29, v30, v31, v32, v33, (.bool bq), u35, u36, u37, u38, u39, u40, u41, u42, u43, u44, u45, u46, u47, u48, u49, u50, u51, u52, u53, u54, u55, u56, u57, u58, u59, u60, u61, u62, u63], []⟩ w') : Code.wp Tryz.prog (Code.region 6 #[⟨some 21, .move (.tmp 4), 109, "text.go:81", #[], none⟩, ⟨some 22, .indexAddr 109 (.tmp 21) (.const (.int .i64 0)), 0, "text.go:81", #[⟨0, .data⟩], none⟩, ⟨some 23, .fieldAddr 116 (.tmp 22) 1, 0, "text.go:81", #[⟨1, .data⟩], none⟩, ⟨some 24, .load 4 (.tmp 23), 4, "text.go:81", #[⟨2, .data⟩], none⟩, ⟨some 25, .move (.tmp 24), 4, "text.go:81", #[⟨3, .data⟩], none⟩, ⟨some 26, .move (.tmp 8), 37, "text.go:81", #[⟨4, .guard⟩], some (4, true)⟩, ⟨some 27, .indexAddr 37 (.tmp 26) (.const (.int .i64 0)), 0, "text.go:81", #[⟨5, .data⟩, ⟨4, .guard⟩], some (4, true)⟩, ⟨some 28, .load 9 (.tmp 27), 9, "text.go:81", #[⟨6, .data⟩, ⟨4, .guard⟩], some (4, true)⟩, ⟨some 29, .move (.tmp 4), 109, "text.go:81", #[⟨4, .guard⟩], some (4, true)⟩, ⟨some 30, .indexAddr 109 (.tmp 29) (.const (.int .i64 0)), 0, "text.go:81", #[⟨8, .data⟩, ⟨4, .guard⟩], some (4, true)⟩, ⟨some 31, .fieldAddr 116 (.tmp 30) 0, 0, "text.go:81", #[⟨9, .data⟩, ⟨4, .guard⟩], some (4, true)⟩, ⟨some 32, .load 9 (.tmp 31), 9, "text.go:81", #[⟨10, .data⟩, ⟨4, .guard⟩], some (4, true)⟩, ⟨some 33, .binOp .neq 9 (.tmp 28) (.tmp 32) 9, 4, "text.go:81", #[⟨7, .data⟩, ⟨11, .data⟩, ⟨4, .guard⟩], some (4, true)⟩, ⟨some 34, .pick (.tmp 25) (.tmp 33) (.const (.bool false)), 4, "text.go:81", #[⟨4, .data⟩, ⟨12, .data⟩], none⟩] true) Q ⟨#[u0, u1, u2, u3, (.slice (some ⟨rb, 10, none⟩) 2 2), u5, u6, u7, (.slice (some ⟨pb, 0, none⟩) (m + 1) (m + 1)), u9, u10, u11, u12, u13, u14, u15, u16, u17, u18, u19, u20, u21, u22, u23, u24, u25, u26, u27, u28, u29, u30, u31, u32, u33, u34, u35, u36, u37, u38, u39, u40, u41, u42, u43, u44, u45, u46, u47, u48, u49, u50, u51, u52, u53, u54, u55, u56, u57, u58, u59, u60, u61, u62, u63], []⟩ w := by
  refine region_via (R := fun a_ e_ a' w' => e_ = .normal ∧ ∃ (v21 v22 v23 v24 v25 v26 v27 v28 v29 v30 v31 v32 v33 : Value), a' = ((((((((((((((a_.put (some 21) v21).put (some 22) v22).put (some 23) v23).put (some 24) v24).put (some 25) v25).put (some 26) v26).put (some 27) v27).put (some 28) v28).put (some 29) v29).put (some 30) v30).put (some 31) v31).put (some 32) v32).put (some 33) v33).put (some 34) (.bool bq)) ∧ Below w.heap.size w w') ?_ ?_
  rotate_left
  · rintro e_ a' w' ⟨rfl, v21, v22, v23, v24, v25, v26, v27, v28, v29, v30, v31, v32, v33, rfl, h1⟩
    simp only [Act.put, List.setIfInBounds_toArray, List.set_cons_zero, List.set_cons_succ]
    exact hK _ h1 _ _ _ _ _ _ _ _ _ _ _ _ _ 
  have hS : (fun w' => Below w.heap.size w w' ∧ Bk w' rb 116 rulesC.toArray ∧ w'.cell? ⟨pb, 0, none⟩ = some (.string x0)) w.drew := ⟨(Below.refl _ _).drew, hb, hp⟩
  refine wp_region_held_drew (S := (fun w' => Below w.heap.size w w' ∧ Bk w' rb 116 rulesC.toArray ∧ w'.cell? ⟨pb, 0, none⟩ = some (.string x0))) (by kernel_rfl) hS (fun hS0 => ?_)
  clear hS0
  generalize w.drew = wd at hS ⊢
  refine wpAnyH_take (i := 0) (oi := ⟨some 21, .move (.tmp 4), 109, "text.go:81", #[], none⟩) (v := ?_) rfl (by kernel_rfl) (by kernel_rfl) (by kernel_rfl) (fun _ _ _ h => by cases h.1) (.inl ⟨by rfl, ?_⟩) (by assumption) ?_
  rotate_left
  · (intro w' hSw; (try dsimp only at hSw); skip; go_simp <;> with_reducible rfl)
  (try simp only [Act.put, List.setIfInBounds_toArray, List.set_cons_zero, List.set_cons_succ])
  refine wpAnyH_take (i := 1) (oi := ⟨some 22, .indexAddr 109 (.tmp 21) (.const (.int .i64 0)), 0, "text.go:81", #[⟨0, .data⟩], none⟩) (v := ?_) rfl (by kernel_rfl) (by kernel_rfl) (by kernel_rfl) (fun _ _ _ h => by cases h.1) (.inl ⟨by rfl, ?_⟩) (by assumption) ?_
  rotate_left
  · (intro w' hSw; (try dsimp only at hSw); skip; go_simp <;> with_reducible rfl)
  (try simp only [Act.put, List.setIfInBounds_toArray, List.set_cons_zero, List.set_cons_succ])
  refine wpAnyH_take (i := 2) (oi := ⟨some 23, .fieldAddr 116 (.tmp 22) 1, 0, "text.go:81", #[⟨1, .data⟩], none⟩) (v := ?_) rfl (by kernel_rfl) (by kernel_rfl) (by kernel_rfl) (fun _ _ _ h => by cases h.1) (.inl ⟨by rfl, ?_⟩) (by assumption) ?_
  rotate_left
  · (intro w' hSw; (try dsimp only at hSw); skip; go_simp <;> with_reducible rfl)
  (try simp only [Act.put, List.setIfInBounds_toArray, List.set_cons_zero, List.set_cons_succ])
  refine wpAnyH_take (i := 3) (oi := ⟨some 24, .load 4 (.tmp 23), 4, "text.go:81", #[⟨2, .data⟩], none⟩) (v := ?_) rfl (by kernel_rfl) (by kernel_rfl) (by kernel_rfl) (fun _ _ _ h => by cases h.1) (.inl ⟨by rfl, ?_⟩) (by assumption) ?_
  rotate_left
  · (intro w' hSw; (try dsimp only at hSw); have q0 := hSw.2.1.at_ 11 (.bool true) rfl; go_simp <;> with_reducible rfl)
  (try simp only [Act.put, List.setIfInBounds_toArray, List.set_cons_zero, List.set_cons_succ])
  refine wpAnyH_take (i := 4) (oi := ⟨some 25, .move (.tmp 24), 4, "text.go:81", #[⟨3, .data⟩], none⟩) (v := ?_) rfl (by kernel_rfl) (by kernel_rfl) (by kernel_rfl) (fun _ _ _ h => by cases h.1) (.inl ⟨by rfl, ?_⟩) (by assumption) ?_
  rotate_left
  · (intro w' hSw; (try dsimp only at hSw); skip; go_simp <;> with_reducible rfl)
  (try simp only [Act.put, List.setIfInBounds_toArray, List.set_cons_zero, List.set_cons_succ])
  refine wpAnyH_take (i := 5) (oi := ⟨some 26, .move (.tmp 8), 37, "text.go:81", #[⟨4, .guard⟩], some (4, true)⟩) (v := ?_) rfl (by kernel_rfl) (by kernel_rfl) (by kernel_rfl) (fun _ _ _ h => by cases h.1) (.inl ⟨by rfl, ?_⟩) (by assumption) ?_
  rotate_left
  · (intro w' hSw; (try dsimp only at hSw); skip; go_simp <;> with_reducible rfl)
  (try simp only [Act.put, List.setIfInBounds_toArray, List.set_cons_zero, List.set_cons_succ])
  refine wpAnyH_take (i := 6) (oi := ⟨some 27, .indexAddr 37 (.tmp 26) (.const (.int .i64 0)), 0, "text.go:81", #[⟨5, .data⟩, ⟨4, .guard⟩], some (4, true)⟩) (v := ?_) rfl (by kernel_rfl) (by kernel_rfl) (by kernel_rfl) (fun _ _ _ h => by cases h.1) (.inl ⟨by rfl, ?_⟩) (by assumption) ?_
  rotate_left
  · (intro w' hSw; (try dsimp only at hSw); have q0 := Nat.succ_pos m; go_simp <;> with_reducible rfl)
  (try simp only [Act.put, List.setIfInBounds_toArray, List.set_cons_zero, List.set_cons_succ])
  refine wpAnyH_take (i := 7) (oi := ⟨some 28, .load 9 (.tmp 27), 9, "text.go:81", #[⟨6, .data⟩, ⟨4, .guard⟩], some (4, true)⟩) (v := ?_) rfl (by kernel_rfl) (by kernel_rfl) (by kernel_rfl) (fun _ _ _ h => by cases h.1) (.inl ⟨by rfl, ?_⟩) (by assumption) ?_
  rotate_left
  · (intro w' hSw; (try dsimp only at hSw); have q0 := hSw.2.2; go_simp <;> with_reducible rfl)
  (try simp only [Act.put, List.setIfInBounds_toArray, List.set_cons_zero, List.set_cons_succ])
  refine wpAnyH_take (i := 8) (oi := ⟨some 29, .move (.tmp 4), 109, "text.go:81", #[⟨4, .guard⟩], some (4, true)⟩) (v := ?_) rfl (by kernel_rfl) (by kernel_rfl) (by kernel_rfl) (fun _ _ _ h => by cases h.1) (.inl ⟨by rfl, ?_⟩) (by assumption) ?_
  rotate_left
  · (intro w' hSw; (try dsimp only at hSw); skip; go_simp <;> with_reducible rfl)
  (try simp only [Act.put, List.setIfInBounds_toArray, List.set_cons_zero, List.set_cons_succ])
  refine wpAnyH_take (i := 9) (oi := ⟨some 30, .indexAddr 109 (.tmp 29) (.const (.int .i64 0)), 0, "text.go:81", #[⟨8, .data⟩, ⟨4, .guard⟩], some (4, true)⟩) (v := ?_) rfl (by kernel_rfl) (by kernel_rfl) (by kernel_rfl) (fun _ _ _ h => by cases h.1) (.inl ⟨by rfl, ?_⟩) (by assumption) ?_
  rotate_left
  · (intro w' hSw; (try dsimp only at hSw); skip; go_simp <;> with_reducible rfl)
  (try simp only [Act.put, List.setIfInBounds_toArray, List.set_cons_zero, List.set_cons_succ])
  refine wpAnyH_take (i := 10) (oi := ⟨some 31, .fieldAddr 116 (.tmp 30) 0, 0, "text.go:81", #[⟨9, .data⟩, ⟨4, .guard⟩], some (4, true)⟩) (v := ?_) rfl (by kernel_rfl) (by kernel_rfl) (by kernel_rfl) (fun _ _ _ h => by cases h.1) (.inl ⟨by rfl, ?_⟩) (by assumption) ?_
  rotate_left
  · (intro w' hSw; (try dsimp only at hSw); skip; go_simp <;> with_reducible rfl)
  (try simp only [Act.put, List.setIfInBounds_toArray, List.set_cons_zero, List.set_cons_succ])
  refine wpAnyH_take (i := 11) (oi := ⟨some 32, .load 9 (.tmp 31), 9, "text.go:81", #[⟨10, .data⟩, ⟨4, .guard⟩], some (4, true)⟩) (v := ?_) rfl (by kernel_rfl) (by kernel_rfl) (by kernel_rfl) (fun _ _ _ h => by cases h.1) (.inl ⟨by rfl, ?_⟩) (by assumption) ?_
  rotate_left
  · (intro w' hSw; (try dsimp only at hSw); have q0 := hSw.2.1.at_ 10 (.string (bt shiftW)) rfl; go_simp <;> with_reducible rfl)
  (try simp only [Act.put, List.setIfInBounds_toArray, List.set_cons_zero, List.set_cons_succ])
  refine wpAnyH_take (i := 12) (oi := ⟨some 33, .binOp .neq 9 (.tmp 28) (.tmp 32) 9, 4, "text.go:81", #[⟨7, .data⟩, ⟨11, .data⟩, ⟨4, .guard⟩], some (4, true)⟩) (v := ?_) rfl (by kernel_rfl) (by kernel_rfl) (by kernel_rfl) (fun _ _ _ h => by cases h.1) (.inl ⟨by rfl, ?_⟩) (by assumption) ?_
  rotate_left
  · (intro w' hSw; (try dsimp only at hSw); have q0 := hq; go_simp <;> with_reducible rfl)
  (try simp only [Act.put, List.setIfInBounds_toArray, List.set_cons_zero, List.set_cons_succ])
  refine wpAnyH_take (i := 13) (oi := ⟨some 34, .pick (.tmp 25) (.tmp 33) (.const (.bool false)), 4, "text.go:81", #[⟨4, .data⟩, ⟨12, .data⟩], none⟩) (v := ?_) rfl (by kernel_rfl) (by kernel_rfl) (by kernel_rfl) (fun _ _ _ h => by cases h.1) (.inl ⟨by rfl, ?_⟩) (by assumption) ?_
  rotate_left
  · (intro w' hSw; (try dsimp only at hSw); skip; go_simp <;> with_reducible rfl)
  (try simp only [Act.put, List.setIfInBounds_toArray, List.set_cons_zero, List.set_cons_succ])
  refine wpAnyH_done (by kernel_rfl) ?_ _
  exact ⟨rfl, _, _, _, _, _, _, _, _, _, _, _, _, _, rfl, hS.1⟩
/-- Where parse is: rule, line, job, what is left of the text. -/
def Pos (T0 T : List UInt8) (J : Jb) (line off n : Nat) : Prop :=
  ((1 ≤ line ∧ line + T.length ≤ T0.length + 1) ∧ J.sh.length ≤ line) ∧
  ((off = 0 ∧ n = 4 ∧ line = 1 ∧ J = zeroJb ∧ T = T0) ∨ (off = 5 ∧ n = 3 ∧ line = 2 ∧ parseJ T0 = ps1 J T) ∨ (off = 10 ∧ n = 2 ∧ ∃ fuel, T.length < fuel ∧ parseJ T0 = ps2 fuel J T line) ∨
   (n = 0 ∧ parseJ T0 = (J, if T = [] then 0 else line)))
/-- What parse answers. -/
def PRQ (T : List UInt8) (w : World) (e : Ending) (w' : World) : Prop := ∃ a c, e = .returned (.tuple #[.agg (jobC (parseJ T).1 (.slice a (parseJ T).1.sh.length c)), .int .i64 ((parseJ T).2 : Nat)]) ∧ ((parseJ T).1.sh.length ≤ c ∧ c ≤ 9223372036854775807) ∧ (∀ q o, a = some ⟨q, o, none⟩ → w.heap.size ≤ q) ∧ Rg w' w'.heap.size a (parseJ T).1.sh ∧ Below w.heap.size w w'
/-- The text's length in a slot. -/
def strLen : Value → Nat
  | .string s => s.size
  | _ => 0
section
variable {g rb Bs : Nat} {w0 w1 w w' : World} {J : Jb} {sv : Value}
theorem PJ.rules (h : PJ g Bs w1 J sv w) (hb : Bk w1 rb 116 rulesC.toArray) (hr : rb < Bs ∧ rb ≠ g) : Bk w rb 116 rulesC.toArray := (h.pb.heap rb hr.1 hr.2).trans hb
theorem PJ.base (h : PJ g Bs w1 J sv w) (hb : Below w0.heap.size w0 w1) (hg : w0.heap.size ≤ g) : Below w0.heap.size w0 w := hb.trans ((h.pb.mono (by have := h.lt; omega)).toBelow hg)
theorem PJ.slice (h : PJ g Bs w1 J sv w) : ∃ a c, sv = .slice a J.sh.length c ∧ (J.sh.length ≤ c ∧ c ≤ 9223372036854775807) ∧ Rg w w.heap.size a J.sh ∧ ∀ q o, a = some ⟨q, o, none⟩ → Bs ≤ q := by
  obtain ⟨a, c, e, _, hr, hq⟩ := rg_of_own h.own
  refine ⟨a, c, e, ?_, hr, hq⟩
  rcases h.own.2 with ⟨e2, h0⟩ | ⟨q, cap, cur, e2, _, _, hnc, hcm, _⟩
  · have h9 := e.symm.trans e2
    injection h9 with _ _ h10
    exact ⟨by omega, by omega⟩
  · rw [e] at e2
    cases e2
    exact ⟨hnc, hcm⟩
/-- The end of parse: the job's cells are written as they are. -/
theorem PRQ.of {T : List UInt8} {line : Nat} {a : Option Addr} {c : Nat} (h : PJ g Bs w1 J (.slice a J.sh.length c) w) (hc : J.sh.length ≤ c ∧ c ≤ 9223372036854775807) (hb : Below w0.heap.size w0 w1) (hg : w0.heap.size ≤ g) (hr : Rg w w.heap.size a J.sh) (hq : ∀ q o, a = some ⟨q, o, none⟩ → Bs ≤ q) (he : parseJ T = (J, line)) :
    PRQ T w0 (.returned (.tuple #[.agg (jobC J (.slice a J.sh.length c)), .int .i64 line])) (w.setRow g (jobC J (.slice a J.sh.length c))) := by
  have hz := h.lt
  have hbl : Below w0.heap.size w0 (w.setRow g (jobC J (.slice a J.sh.length c))) := below_setRow (h.base hb hg) hg _
  have hsz : w.heap.size ≤ (w.setRow g (jobC J (.slice a J.sh.length c))).heap.size := (below_setRow (Below.refl w0.heap.size w) hg (jobC J (.slice a J.sh.length c))).size
  refine ⟨a, c, by rw [he], by rw [he]; exact hc, (fun q o e => by have := hq q o e; omega), ?_, hbl⟩
  rw [he]
  intro k s hs
  obtain ⟨q, o, e, hlt, h0, h1⟩ := hr k s hs
  have hne : q ≠ g := by have := hq q o e; omega
  have hk := setRow_other w g q (jobC J (.slice a J.sh.length c)) hne
  exact ⟨q, o, e, by omega, (World.cell?_of_block hk).trans h0, (World.cell?_of_block hk).trans h1⟩
end
end Go.Proofs.YtljefjngmembkaaGreatDoor
