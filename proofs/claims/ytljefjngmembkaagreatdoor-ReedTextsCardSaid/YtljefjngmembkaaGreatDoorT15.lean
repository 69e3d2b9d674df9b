/- Part 15 of the proof: JoA, LawK. -/
import Derived.Deep.WholeRow
import Derived.Test.YtljefjngmembkaaGreatDoorT13
import Derived.Test.YtljefjngmembkaaGreatDoorT11
import Derived.Test.YtljefjngmembkaaGreatDoorT12
import Derived.Test.YtljefjngmembkaaGreatDoorT14
namespace Go.Proofs.YtljefjngmembkaaGreatDoor
set_option linter.all false
open Go.RowKit
set_option maxHeartbeats 1000000 in
set_option maxRecDepth 1000000 in
theorem nearP (b : Nat) (n lo hi wide : Int) (w : World) (hp : Pt w b) (h : -400 ≤ lo ∧ lo ≤ n ∧ n ≤ hi ∧ hi ≤ 400) (hw : 0 ≤ wide ∧ wide ≤ 100) :
    Calls Tryz.prog 27 #[.pointer (some ⟨b,0,none⟩),.int .i64 n,.int .i64 lo,.int .i64 hi,.int .i64 wide] w fun e w' => ∃ a c,e = .returned (.agg #[.int .i64 a,.int .i64 c]) ∧ (lo ≤ a ∧ a ≤ n ∧ n ≤ c ∧ c ≤ hi ∧ n - wide ≤ a) ∧ PB b w.heap.size w w' ∧ Pt w' b := by
  have hlt := hp.lt
  have hgb : w.heap.size ≠ b := by omega
  have hB : w.heap.size ≤ w.heap.size := Nat.le_refl _
  have q0 : PB b w.heap.size w (w.alloc (.cells #[.int .i64 0,.int .i64 0] 23)) := (PB.refl _ _ _).alloc (Nat.le_refl _) _
  have r0 : Bk (w.alloc (.cells #[.int .i64 0,.int .i64 0] 23)) w.heap.size 23 #[.int .i64 0,.int .i64 0] := Bk.new _ _ _
  have hp0 := hp.alloc (.cells #[.int .i64 0,.int .i64 0] 23)
  go_enter Tryz.func27,Tryz.ntmps27
  go_wp2_with fail
  refine (uptoP b wide _ hp0 (by omega)).mono ?_
  rintro e w1a ⟨d1,rfl,hd1,hk1a,hp1a⟩
  have q1a := q0.trans hk1a q0.size
  have r1a := Bk.pb (b := b) r0 hk1a (by have := Bk.lt r0; exact this) hgb
  go_wp2_with fail
  have hlb1 := hp1a.lt
  refine (of3P b w1a.heap.size 0 0 d1 3 _ (hp1a.alloc _) (by omega) (Bk.new _ _ _)).mono ?_
  rintro e w1b ⟨y1,rfl,hy1,hk1b,hp1b⟩
  have q1b := (q1a.alloc (by have := q1a.size; omega) (.cells #[.int .i64 0,.int .i64 0,.int .i64 d1] 3)).trans hk1b (by have := q1a.size; simp; omega)
  have r1b := (r1a.alloc (.cells #[.int .i64 0,.int .i64 0,.int .i64 d1] 3)).pb hk1b (by have := r1a.lt; simp; omega) hgb
  have hy1' : 0 ≤ y1 ∧ y1 ≤ wide := by rcases hy1 with h | h | h <;> omega
  clear hy1 hk1a hk1b hp1a hd1 r1a q1a

  have w1 : IntKind.i64.wrap (n - y1) = n - y1 := IntWalk.i64_in _ (by omega)
  by_cases h1 : lo < n - y1
  · have mx : max lo (n - y1) = n - y1 := by omega
    go_wp2_with fail
    refine (uptoP b wide _ hp1b (by omega)).mono ?_
    rintro e w2a ⟨d2,rfl,hd2,hk2a,hp2a⟩
    have q2a := q1b.trans hk2a q1b.size
    have r2a := Bk.pb (b := b) r1b hk2a (by have := Bk.lt r1b; exact this) hgb
    go_wp2_with fail
    have hlb2 := hp2a.lt
    refine (of3P b w2a.heap.size 0 0 d2 3 _ (hp2a.alloc _) (by omega) (Bk.new _ _ _)).mono ?_
    rintro e w2b ⟨y2,rfl,hy2,hk2b,hp2b⟩
    have q2b := (q2a.alloc (by have := q2a.size; omega) (.cells #[.int .i64 0,.int .i64 0,.int .i64 d2] 3)).trans hk2b (by have := q2a.size; simp; omega)
    have r2b := (r2a.alloc (.cells #[.int .i64 0,.int .i64 0,.int .i64 d2] 3)).pb hk2b (by have := r2a.lt; simp; omega) hgb
    have hy2' : 0 ≤ y2 ∧ y2 ≤ wide := by rcases hy2 with h | h | h <;> omega
    clear hy2 hk2a hk2b hp2a hd2 r2a q2a
    by_cases h2 : n + y2 < hi
    · have mz : min hi (n + y2) = n + y2 := by omega
      have z0 := r2b.at_ 0 _ rfl
      have z1 := r2b.at_ 1 _ rfl
      have f0 := r2b.free 0
      have f1 := r2b.free 1
      have hbg : b ≠ w.heap.size := by omega
      go_wp2_with fail
      refine bodyPost_ret (results_cell_row Tryz.results27 _ _ _ _ _ _ _ rfl (r2b.put2 (.int .i64 (n - y1)) (.int .i64 (n + y2))) Tryz.underlying23 rfl szRange) rfl ⟨(n - y1),(n + y2),rfl,by omega,?_,(hp2b.other (p := ⟨w.heap.size,0,none⟩) hbg _).other (p := ⟨w.heap.size,1,none⟩) hbg _⟩
      exact (q2b.setCell (p := ⟨w.heap.size,0,none⟩) hB _).setCell (p := ⟨w.heap.size,1,none⟩) hB _
    · have mz : min hi (n + y2) = hi := by omega
      have z0 := r2b.at_ 0 _ rfl
      have z1 := r2b.at_ 1 _ rfl
      have f0 := r2b.free 0
      have f1 := r2b.free 1
      have hbg : b ≠ w.heap.size := by omega
      go_wp2_with fail
      refine bodyPost_ret (results_cell_row Tryz.results27 _ _ _ _ _ _ _ rfl (r2b.put2 (.int .i64 (n - y1)) (.int .i64 hi)) Tryz.underlying23 rfl szRange) rfl ⟨(n - y1),hi,rfl,by omega,?_,(hp2b.other (p := ⟨w.heap.size,0,none⟩) hbg _).other (p := ⟨w.heap.size,1,none⟩) hbg _⟩
      exact (q2b.setCell (p := ⟨w.heap.size,0,none⟩) hB _).setCell (p := ⟨w.heap.size,1,none⟩) hB _

  · have mx : max lo (n - y1) = lo := by omega
    go_wp2_with fail
    refine (uptoP b wide _ hp1b (by omega)).mono ?_
    rintro e w2a ⟨d2,rfl,hd2,hk2a,hp2a⟩
    have q2a := q1b.trans hk2a q1b.size
    have r2a := Bk.pb (b := b) r1b hk2a (by have := Bk.lt r1b; exact this) hgb
    go_wp2_with fail
    have hlb2 := hp2a.lt
    refine (of3P b w2a.heap.size 0 0 d2 3 _ (hp2a.alloc _) (by omega) (Bk.new _ _ _)).mono ?_
    rintro e w2b ⟨y2,rfl,hy2,hk2b,hp2b⟩
    have q2b := (q2a.alloc (by have := q2a.size; omega) (.cells #[.int .i64 0,.int .i64 0,.int .i64 d2] 3)).trans hk2b (by have := q2a.size; simp; omega)
    have r2b := (r2a.alloc (.cells #[.int .i64 0,.int .i64 0,.int .i64 d2] 3)).pb hk2b (by have := r2a.lt; simp; omega) hgb
    have hy2' : 0 ≤ y2 ∧ y2 ≤ wide := by rcases hy2 with h | h | h <;> omega
    clear hy2 hk2a hk2b hp2a hd2 r2a q2a
    by_cases h2 : n + y2 < hi
    · have mz : min hi (n + y2) = n + y2 := by omega
      have z0 := r2b.at_ 0 _ rfl
      have z1 := r2b.at_ 1 _ rfl
      have f0 := r2b.free 0
      have f1 := r2b.free 1
      have hbg : b ≠ w.heap.size := by omega
      go_wp2_with fail
      refine bodyPost_ret (results_cell_row Tryz.results27 _ _ _ _ _ _ _ rfl (r2b.put2 (.int .i64 lo) (.int .i64 (n + y2))) Tryz.underlying23 rfl szRange) rfl ⟨lo,(n + y2),rfl,by omega,?_,(hp2b.other (p := ⟨w.heap.size,0,none⟩) hbg _).other (p := ⟨w.heap.size,1,none⟩) hbg _⟩
      exact (q2b.setCell (p := ⟨w.heap.size,0,none⟩) hB _).setCell (p := ⟨w.heap.size,1,none⟩) hB _
    · have mz : min hi (n + y2) = hi := by omega
      have z0 := r2b.at_ 0 _ rfl
      have z1 := r2b.at_ 1 _ rfl
      have f0 := r2b.free 0
      have f1 := r2b.free 1
      have hbg : b ≠ w.heap.size := by omega
      go_wp2_with fail
      refine bodyPost_ret (results_cell_row Tryz.results27 _ _ _ _ _ _ _ rfl (r2b.put2 (.int .i64 lo) (.int .i64 hi)) Tryz.underlying23 rfl szRange) rfl ⟨lo,hi,rfl,by omega,?_,(hp2b.other (p := ⟨w.heap.size,0,none⟩) hbg _).other (p := ⟨w.heap.size,1,none⟩) hbg _⟩
      exact (q2b.setCell (p := ⟨w.heap.size,0,none⟩) hB _).setCell (p := ⟨w.heap.size,1,none⟩) hB _

end Go.Proofs.YtljefjngmembkaaGreatDoor
/- What the laws take from pots and jobs made of numbers. -/
namespace Go.Proofs.YtljefjngmembkaaGreatDoor
set_option linter.all false
open Go.RowKit
theorem Rg.hi {w : World} {g : Nat} {a : Option Addr} {l : List R2} (h : Rg w g a l) (hg : g ≤ w.heap.size) : Rg w w.heap.size a l := h.keep hg (fun _ _ => rfl)
end Go.Proofs.YtljefjngmembkaaGreatDoor
