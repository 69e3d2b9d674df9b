/- The contract of work.spoiled (package reed). -/
import Derived.Test.YtkimdnckbdeekaaBase
namespace Go.Proofs.Ytkimdnckbdeekaa
open Go.RowKit

set_option maxHeartbeats 1000000 in
theorem spoiled_any (J : Jb) (s : Value) (w : World) :
    Calls Try.prog 46 #[.agg (jobC J s)] w fun e w' => e = .returned (.int .i64 (spoilI J.le J.tg)) ∧ w.alloc (.cells (jobC J s) 59) = w' := by
  by_cases h1 : J.t2 < J.le
  · have H : Hid (spoilI J.le J.tg = 1) := by show spoilI J.le J.tg = 1; simp [spoilI, Jb.tg, h1]
    go_enter Try.func46, Try.ntmps46
    go_wp2
    go_ret
    exact ⟨by rw [H.out]; rfl, rfl⟩
  · by_cases h2 : J.r2 < J.le
    · have H : Hid (spoilI J.le J.tg = 1) := by show spoilI J.le J.tg = 1; simp [spoilI, Jb.tg, h2]
      go_enter Try.func46, Try.ntmps46
      go_wp2
      go_ret
      exact ⟨by rw [H.out]; rfl, rfl⟩
    · by_cases h3 : J.le ≤ J.t1
      · by_cases h4 : J.le ≤ J.r1
        · have H : Hid (spoilI J.le J.tg = 2) := by show spoilI J.le J.tg = 2; simp [spoilI, Jb.tg, h1, h2, h3, h4]
          go_enter Try.func46, Try.ntmps46
          go_wp2
          go_ret
          exact ⟨by rw [H.out]; rfl, rfl⟩
        · have H : Hid (spoilI J.le J.tg = 3) := by show spoilI J.le J.tg = 3; simp [spoilI, Jb.tg, h1, h2, h4]
          go_enter Try.func46, Try.ntmps46
          go_wp2
          go_ret
          exact ⟨by rw [H.out]; rfl, rfl⟩
      · have H : Hid (spoilI J.le J.tg = 3) := by show spoilI J.le J.tg = 3; simp [spoilI, Jb.tg, h1, h2, h3]
        go_enter Try.func46, Try.ntmps46
        go_wp2
        go_ret
        exact ⟨by rw [H.out]; rfl, rfl⟩
end Go.Proofs.Ytkimdnckbdeekaa
