/- Part 25 of the proof: RefI. -/
import Derived.Test.YtdficjnnlaicpaaT22
import Derived.Test.YtdficjnnlaicpaaT14
/- Contracts of the reference's functions on strokes. -/
namespace Go.Proofs.Ytdficjnnlaicpaa
set_option linter.all false
open Go.RowKit
def fileV (J : Jb) : Array Value := #[.int .i64 J.u1, .int .i64 J.u2, .int .i64 J.d1, .int .i64 J.d2, .int .i64 J.x1, .int .i64 J.x2, .int .i64 J.y1, .int .i64 J.y2, .int .i64 J.le]
def tgV (t : Tg) : Array Value := #[.int .i64 t.p1, .int .i64 t.p2, .int .i64 t.t1, .int .i64 t.t2, .int .i64 t.r1, .int .i64 t.r2]
theorem below_two (w : World) (o p : Obj) : Below w.heap.size w ((w.alloc o).alloc p) := ((Below.refl _ _).alloc (Nat.le_refl _) _).alloc (by simp) _
set_option maxHeartbeats 1000000 in
set_option maxRecDepth 100000 in
theorem refSpoiled_any (J : Jb) (t : Tg) (w : World) :
    Calls Try.prog 62 #[.agg (fileV J), .agg (tgV t)] w fun e w' => e = .returned (.int .i64 (spoilI J.le t)) ∧ Below w.heap.size w w' := by
  unfold fileV tgV
  by_cases h1 : t.t2 < J.le
  · have H : Hid (spoilI J.le t = 1) := by show spoilI J.le t = 1; simp [spoilI, h1]
    go_enter Try.func62, Try.ntmps62
    go_wp2
    go_ret
    exact ⟨ret_i (by rw [H.out]; first | done | rfl), below_two _ _ _⟩
  · by_cases h2 : t.r2 < J.le
    · have H : Hid (spoilI J.le t = 1) := by show spoilI J.le t = 1; simp [spoilI, h2]
      go_enter Try.func62, Try.ntmps62
      go_wp2
      go_ret
      exact ⟨ret_i (by rw [H.out]; first | done | rfl), below_two _ _ _⟩
    · by_cases h3 : J.le ≤ t.t1
      · by_cases h4 : J.le ≤ t.r1
        · have H : Hid (spoilI J.le t = 2) := by show spoilI J.le t = 2; simp [spoilI, h1, h2, h3, h4]
          go_enter Try.func62, Try.ntmps62
          go_wp2
          go_ret
          exact ⟨ret_i (by rw [H.out]; first | done | rfl), below_two _ _ _⟩
        · have H : Hid (spoilI J.le t = 3) := by show spoilI J.le t = 3; simp [spoilI, h1, h2, h4]
          go_enter Try.func62, Try.ntmps62
          go_wp2
          go_ret
          exact ⟨ret_i (by rw [H.out]; first | done | rfl), below_two _ _ _⟩
      · have H : Hid (spoilI J.le t = 3) := by show spoilI J.le t = 3; simp [spoilI, h1, h2, h3]
        go_enter Try.func62, Try.ntmps62
        go_wp2
        go_ret
        exact ⟨ret_i (by rw [H.out]; first | done | rfl), below_two _ _ _⟩
theorem below_three (w : World) (o p q : Obj) : Below w.heap.size w (((w.alloc o).alloc p).alloc q) := (below_two w o p).alloc (by simp; omega) _
set_option maxHeartbeats 1000000 in
set_option maxRecDepth 100000 in
theorem refStroke_tip (J : Jb) (t : Tg) (w : World) (h : J.In 1000) (ht : t.In 1000) :
    Calls Try.prog 75 #[.agg (fileV J), .agg (tgV t), .int .i64 1] w fun e w' => e = .returned (.agg (tgV (strk J t 1))) ∧ Below w.heap.size w w' := by
  obtain ⟨p1, p1', p2, p2', t1, t1', t2, t2', r1, r1', r2, r2'⟩ := ht
  obtain ⟨_, _, _, _, _, _, ⟨u1, u1'⟩, ⟨u2, u2'⟩, ⟨d1, d1'⟩, ⟨d2, d2'⟩, ⟨x1, x1'⟩, ⟨x2, x2'⟩, ⟨y1, y1'⟩, ⟨y2, y2'⟩, _, _, _, _, _⟩ := h
  unfold fileV tgV
  go_enter Try.func75, Try.ntmps75
  go_wp2
  refine bodyPost_ret (results_cell_row Try.results75 _ _ _ _ _ _ _ rfl (Bk.newAt _ _ _ _ (by simp)) Try.underlying25 rfl szTongue) rfl ⟨ret_6 (by simp [strk]) (by simp [strk]) (by simp [strk]) (by simp [strk]) (by simp [strk]) (by simp [strk]), below_three _ _ _ _⟩
set_option maxHeartbeats 1000000 in
set_option maxRecDepth 100000 in
theorem refStroke_root (J : Jb) (t : Tg) (w : World) (h : J.In 1000) (ht : t.In 1000) :
    Calls Try.prog 75 #[.agg (fileV J), .agg (tgV t), .int .i64 2] w fun e w' => e = .returned (.agg (tgV (strk J t 2))) ∧ Below w.heap.size w w' := by
  obtain ⟨p1, p1', p2, p2', t1, t1', t2, t2', r1, r1', r2, r2'⟩ := ht
  obtain ⟨_, _, _, _, _, _, ⟨u1, u1'⟩, ⟨u2, u2'⟩, ⟨d1, d1'⟩, ⟨d2, d2'⟩, ⟨x1, x1'⟩, ⟨x2, x2'⟩, ⟨y1, y1'⟩, ⟨y2, y2'⟩, _, _, _, _, _⟩ := h
  unfold fileV tgV
  go_enter Try.func75, Try.ntmps75
  go_wp2
  refine bodyPost_ret (results_cell_row Try.results75 _ _ _ _ _ _ _ rfl (Bk.newAt _ _ _ _ (by simp)) Try.underlying25 rfl szTongue) rfl ⟨ret_6 (by simp [strk]) (by simp [strk]) (by simp [strk]) (by simp [strk]) (by simp [strk]) (by simp [strk]), below_three _ _ _ _⟩
theorem refStroke_any (J : Jb) (t : Tg) (k : Int) (hk : k = 1 ∨ k = 2) (w : World) (h : J.In 1000) (ht : t.In 1000) :
    Calls Try.prog 75 #[.agg (fileV J), .agg (tgV t), .int .i64 k] w fun e w' => e = .returned (.agg (tgV (strk J t k))) ∧ Below w.heap.size w w' := by
  rcases hk with rfl | rfl
  · exact refStroke_tip J t w h ht
  · exact refStroke_root J t w h ht
end Go.Proofs.Ytdficjnnlaicpaa
