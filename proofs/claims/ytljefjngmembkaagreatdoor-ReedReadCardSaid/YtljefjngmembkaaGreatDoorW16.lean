/- Part 16 of the proof: JoA, LawK, JoB. -/
import Derived.Deep.WholeRow
import Derived.Test.YtljefjngmembkaaGreatDoorW15
import Derived.Test.YtljefjngmembkaaGreatDoorW13
import Derived.Test.YtljefjngmembkaaGreatDoorW14
/- Near, by hand. -/
namespace Go.Proofs.YtljefjngmembkaaGreatDoor
set_option linter.all false
open Go.RowKit
set_option maxHeartbeats 1000000 in
set_option maxRecDepth 1000000 in
theorem nearP (b : Nat) (n lo hi wide : Int) (w : World) (hp : Pt w b) (h : -400 ≤ lo ∧ lo ≤ n ∧ n ≤ hi ∧ hi ≤ 400) (hw : 0 ≤ wide ∧ wide ≤ 100) :
    Calls Tryz.prog 27 #[.pointer (some ⟨b,0,none⟩),.int .i64 n,.int .i64 lo,.int .i64 hi,.int .i64 wide] w fun e w' => ∃ a c,e = .returned (.agg #[.int .i64 a,.int .i64 c]) ∧ (lo ≤ a ∧ a ≤ n ∧ n ≤ c ∧ c ≤ hi ∧ n - wide ≤ a) ∧ PB b w.heap.size w w' ∧ Pt w' b := by
  have hlt := hp.lt
  have hgb : w.heap.size ≠ b := by omega
  have hB : w.heap.size ≤ w.heap.size := Nat.le_refl _
  have q0 : PB b w.heap.size w (w.alloc (.cells #[.int .i64 0,.int .i64 0] 23)) := (PB.refl _ _ _).alloc (Nat.le_refl _) _
  have r0 : Bk (w.alloc (.cells #[.int .i64 0,.int .i64 0] 23)) w.heap.size 23 #[.int .i64 0,.int .i64 0] := Bk.new _ _ _
  have hp0 := hp.alloc (.cells #[.int .i64 0,.int .i64 0] 23)
  go_enter Tryz.func27,Tryz.ntmps27
  go_wp2_with fail
  refine (uptoP b wide _ hp0 (by omega)).mono ?_
  rintro e w1a ⟨d1,rfl,hd1,hk1a,hp1a⟩
  have q1a := q0.trans hk1a q0.size
  have r1a := Bk.pb (b := b) r0 hk1a (by have := Bk.lt r0; exact this) hgb
  go_wp2_with fail
  have hlb1 := hp1a.lt
  refine (of3P b w1a.heap.size 0 0 d1 3 _ (hp1a.alloc _) (by omega) (Bk.new _ _ _)).mono ?_
  rintro e w1b ⟨y1,rfl,hy1,hk1b,hp1b⟩
  have q1b := (q1a.alloc (by have := q1a.size; omega) (.cells #[.int .i64 0,.int .i64 0,.int .i64 d1] 3)).trans hk1b (by have := q1a.size; simp; omega)
  have r1b := (r1a.alloc (.cells #[.int .i64 0,.int .i64 0,.int .i64 d1] 3)).pb hk1b (by have := r1a.lt; simp; omega) hgb
  have hy1' : 0 ≤ y1 ∧ y1 ≤ wide := by rcases hy1 with h | h | h <;> omega
  clear hy1 hk1a hk1b hp1a hd1 r1a q1a

  have w1 : IntKind.i64.wrap (n - y1) = n - y1 := IntWalk.i64_in _ (by omega)
  by_cases h1 : lo < n - y1
  · go_wp2_with fail
    refine (uptoP b wide _ hp1b (by omega)).mono ?_
    rintro e w2a ⟨d2,rfl,hd2,hk2a,hp2a⟩
    have q2a := q1b.trans hk2a q1b.size
    have r2a := Bk.pb (b := b) r1b hk2a (by have := Bk.lt r1b; exact this) hgb
    go_wp2_with fail
    have hlb2 := hp2a.lt
    refine (of3P b w2a.heap.size 0 0 d2 3 _ (hp2a.alloc _) (by omega) (Bk.new _ _ _)).mono ?_
    rintro e w2b ⟨y2,rfl,hy2,hk2b,hp2b⟩
    have q2b := (q2a.alloc (by have := q2a.size; omega) (.cells #[.int .i64 0,.int .i64 0,.int .i64 d2] 3)).trans hk2b (by have := q2a.size; simp; omega)
    have r2b := (r2a.alloc (.cells #[.int .i64 0,.int .i64 0,.int .i64 d2] 3)).pb hk2b (by have := r2a.lt; simp; omega) hgb
    have hy2' : 0 ≤ y2 ∧ y2 ≤ wide := by rcases hy2 with h | h | h <;> omega
    clear hy2 hk2a hk2b hp2a hd2 r2a q2a
    by_cases h2 : n + y2 < hi
    · have z0 := r2b.at_ 0 _ rfl
      have z1 := r2b.at_ 1 _ rfl
      have f0 := r2b.free 0
      have f1 := r2b.free 1
      have hbg : b ≠ w.heap.size := by omega
      go_wp2_with fail
      refine bodyPost_ret (results_cell_row Tryz.results27 _ _ _ _ _ _ _ rfl (r2b.put2 (.int .i64 (n - y1)) (.int .i64 (n + y2))) Tryz.underlying23 rfl szRange) rfl ⟨(n - y1),(n + y2),rfl,by omega,?_,(hp2b.other (p := ⟨w.heap.size,0,none⟩) hbg _).other (p := ⟨w.heap.size,1,none⟩) hbg _⟩
      exact (q2b.setCell (p := ⟨w.heap.size,0,none⟩) hB _).setCell (p := ⟨w.heap.size,1,none⟩) hB _
    · have z0 := r2b.at_ 0 _ rfl
      have z1 := r2b.at_ 1 _ rfl
      have f0 := r2b.free 0
      have f1 := r2b.free 1
      have hbg : b ≠ w.heap.size := by omega
      go_wp2_with fail
      refine bodyPost_ret (results_cell_row Tryz.results27 _ _ _ _ _ _ _ rfl (r2b.put2 (.int .i64 (n - y1)) (.int .i64 hi)) Tryz.underlying23 rfl szRange) rfl ⟨(n - y1),hi,rfl,by omega,?_,(hp2b.other (p := ⟨w.heap.size,0,none⟩) hbg _).other (p := ⟨w.heap.size,1,none⟩) hbg _⟩
      exact (q2b.setCell (p := ⟨w.heap.size,0,none⟩) hB _).setCell (p := ⟨w.heap.size,1,none⟩) hB _

  · go_wp2_with fail
    refine (uptoP b wide _ hp1b (by omega)).mono ?_
    rintro e w2a ⟨d2,rfl,hd2,hk2a,hp2a⟩
    have q2a := q1b.trans hk2a q1b.size
    have r2a := Bk.pb (b := b) r1b hk2a (by have := Bk.lt r1b; exact this) hgb
    go_wp2_with fail
    have hlb2 := hp2a.lt
    refine (of3P b w2a.heap.size 0 0 d2 3 _ (hp2a.alloc _) (by omega) (Bk.new _ _ _)).mono ?_
    rintro e w2b ⟨y2,rfl,hy2,hk2b,hp2b⟩
    have q2b := (q2a.alloc (by have := q2a.size; omega) (.cells #[.int .i64 0,.int .i64 0,.int .i64 d2] 3)).trans hk2b (by have := q2a.size; simp; omega)
    have r2b := (r2a.alloc (.cells #[.int .i64 0,.int .i64 0,.int .i64 d2] 3)).pb hk2b (by have := r2a.lt; simp; omega) hgb
    have hy2' : 0 ≤ y2 ∧ y2 ≤ wide := by rcases hy2 with h | h | h <;> omega
    clear hy2 hk2a hk2b hp2a hd2 r2a q2a
    by_cases h2 : n + y2 < hi
    · have z0 := r2b.at_ 0 _ rfl
      have z1 := r2b.at_ 1 _ rfl
      have f0 := r2b.free 0
      have f1 := r2b.free 1
      have hbg : b ≠ w.heap.size := by omega
      go_wp2_with fail
      refine bodyPost_ret (results_cell_row Tryz.results27 _ _ _ _ _ _ _ rfl (r2b.put2 (.int .i64 lo) (.int .i64 (n + y2))) Tryz.underlying23 rfl szRange) rfl ⟨lo,(n + y2),rfl,by omega,?_,(hp2b.other (p := ⟨w.heap.size,0,none⟩) hbg _).other (p := ⟨w.heap.size,1,none⟩) hbg _⟩
      exact (q2b.setCell (p := ⟨w.heap.size,0,none⟩) hB _).setCell (p := ⟨w.heap.size,1,none⟩) hB _
    · have z0 := r2b.at_ 0 _ rfl
      have z1 := r2b.at_ 1 _ rfl
      have f0 := r2b.free 0
      have f1 := r2b.free 1
      have hbg : b ≠ w.heap.size := by omega
      go_wp2_with fail
      refine bodyPost_ret (results_cell_row Tryz.results27 _ _ _ _ _ _ _ rfl (r2b.put2 (.int .i64 lo) (.int .i64 hi)) Tryz.underlying23 rfl szRange) rfl ⟨lo,hi,rfl,by omega,?_,(hp2b.other (p := ⟨w.heap.size,0,none⟩) hbg _).other (p := ⟨w.heap.size,1,none⟩) hbg _⟩
      exact (q2b.setCell (p := ⟨w.heap.size,0,none⟩) hB _).setCell (p := ⟨w.heap.size,1,none⟩) hB _

end Go.Proofs.YtljefjngmembkaaGreatDoor
/- What the laws take from pots and jobs made of numbers. -/
namespace Go.Proofs.YtljefjngmembkaaGreatDoor
set_option linter.all false
open Go.RowKit
theorem Rg.hi {w : World} {g : Nat} {a : Option Addr} {l : List R2} (h : Rg w g a l) (hg : g ≤ w.heap.size) : Rg w w.heap.size a l := h.keep hg (fun _ _ => rfl)
end Go.Proofs.YtljefjngmembkaaGreatDoor
/- JobOf, by hand. -/
namespace Go.Proofs.YtljefjngmembkaaGreatDoor
set_option linter.all false
open Go.RowKit
noncomputable def jobody : Code := Tryz.f6.body.getD .skip
noncomputable def jorest1 : Code := sndB jobody
noncomputable def jorest2 : Code := sndB jorest1
noncomputable def jorest3 : Code := sndB jorest2
noncomputable def jorest4 : Code := sndB jorest3
noncomputable def jorest5 : Code := sndB jorest4
noncomputable def jorest6 : Code := sndB jorest5
noncomputable def jorest7 : Code := sndB jorest6
noncomputable def jorest8 : Code := sndB jorest7
noncomputable def jorest9 : Code := sndB jorest8
set_option maxRecDepth 1000000 in
theorem jobody_eq : jobody = .seq (Code.region 0 #[⟨some 6,.alloc 30,0,"jobs.go:6",#[],none⟩] false) jorest1 := by kernel_rfl
set_option maxRecDepth 1000000 in
theorem jorest1_eq : jorest1 = .seq (Code.region 1 #[⟨some 10,.move (.tmp 0),34,"jobs.go:7",#[],none⟩,⟨some 11,.call { callee := .value (.func 24),args := #[.tmp 10,.const (.int .i64 1),.const (.int .i64 6)],argTypes := #[34,3,3] },3,"jobs.go:7",#[⟨0,.data⟩],none⟩,⟨some 12,.move (.tmp 0),34,"jobs.go:7",#[],none⟩,⟨some 13,.move (.tmp 0),34,"jobs.go:7",#[],none⟩,⟨some 14,.call { callee := .value (.func 26),args := #[.tmp 13,.const (.int .i64 3)],argTypes := #[34,3] },3,"jobs.go:7",#[⟨3,.data⟩,⟨1,.chain⟩],none⟩,⟨some 15,.buildSlice 31 3 #[(0,.const (.int .i64 0)),(1,.const (.int .i64 1)),(2,.tmp 14)],31,"jobs.go:7",#[⟨4,.data⟩],none⟩,⟨some 16,.call { callee := .value (.func 25),args := #[.tmp 12,.tmp 15],argTypes := #[34,31] },3,"jobs.go:7",#[⟨2,.data⟩,⟨5,.data⟩,⟨4,.chain⟩],none⟩,⟨some 17,.build 30 #[(3,.tmp 11),(4,.tmp 16)],30,"jobs.go:7",#[⟨1,.data⟩,⟨6,.data⟩],none⟩,⟨some 7,.alloc 30,0,"jobs.go:7",#[],none⟩,⟨none,.store 30 (.tmp 7) (.tmp 17),0,"jobs.go:7",#[⟨8,.data⟩,⟨7,.data⟩,⟨6,.chain⟩,⟨0,.phase⟩,⟨1,.phase⟩,⟨2,.phase⟩,⟨3,.phase⟩,⟨4,.phase⟩,⟨5,.phase⟩,⟨6,.phase⟩,⟨7,.phase⟩,⟨8,.phase⟩],none⟩] false) jorest2 := by kernel_rfl
set_option maxRecDepth 1000000 in
theorem jorest2_eq : jorest2 = .seq (Code.region 2 #[⟨some 18,.move (.tmp 0),34,"jobs.go:8",#[],none⟩,⟨some 19,.call { callee := .value (.func 24),args := #[.tmp 18,.const (.int .i64 (-16)),.const (.int .i64 16)],argTypes := #[34,3,3] },3,"jobs.go:8",#[⟨0,.data⟩],none⟩,⟨some 8,.assign (.tmp 19),3,"jobs.go:8",#[⟨1,.data⟩,⟨1,.chain⟩,⟨0,.phase⟩,⟨1,.phase⟩],none⟩] false) jorest3 := by kernel_rfl
set_option maxRecDepth 1000000 in
theorem jorest3_eq : jorest3 = .seq (Code.region 3 #[⟨some 20,.move (.tmp 0),34,"jobs.go:9",#[],none⟩,⟨some 21,.move (.tmp 8),3,"jobs.go:9",#[],none⟩,⟨some 22,.move (.tmp 1),3,"jobs.go:9",#[],none⟩,⟨some 23,.call { callee := .value (.func 27),args := #[.tmp 20,.tmp 21,.const (.int .i64 (-60)),.const (.int .i64 60),.tmp 22],argTypes := #[34,3,3,3,3] },23,"jobs.go:9",#[⟨0,.data⟩,⟨1,.data⟩,⟨2,.data⟩],none⟩,⟨some 24,.fieldAddr 30 (.tmp 7) 0,0,"jobs.go:9",#[⟨0,.phase⟩,⟨1,.phase⟩,⟨2,.phase⟩,⟨3,.phase⟩],none⟩,⟨some 25,.fieldAddr 25 (.tmp 24) 0,0,"jobs.go:9",#[⟨4,.data⟩,⟨0,.phase⟩,⟨1,.phase⟩,⟨2,.phase⟩,⟨3,.phase⟩],none⟩,⟨none,.store 23 (.tmp 25) (.tmp 23),0,"jobs.go:9",#[⟨5,.data⟩,⟨3,.data⟩,⟨3,.chain⟩,⟨0,.phase⟩,⟨1,.phase⟩,⟨2,.phase⟩,⟨3,.phase⟩],none⟩] false) jorest4 := by kernel_rfl
set_option maxRecDepth 1000000 in
theorem jorest4_eq : jorest4 = .seq (Code.region 4 #[⟨some 26,.move (.tmp 0),34,"jobs.go:10",#[],none⟩,⟨some 27,.move (.tmp 0),34,"jobs.go:10",#[],none⟩,⟨some 28,.call { callee := .value (.func 24),args := #[.tmp 27,.const (.int .i64 20),.const (.int .i64 40)],argTypes := #[34,3,3] },3,"jobs.go:10",#[⟨1,.data⟩],none⟩,⟨some 29,.call { callee := .value (.func 27),args := #[.tmp 26,.tmp 28,.const (.int .i64 0),.const (.int .i64 100),.const (.int .i64 2)],argTypes := #[34,3,3,3,3] },23,"jobs.go:10",#[⟨0,.data⟩,⟨2,.data⟩,⟨2,.chain⟩],none⟩,⟨some 30,.move (.tmp 0),34,"jobs.go:10",#[],none⟩,⟨some 31,.move (.tmp 0),34,"jobs.go:10",#[],none⟩,⟨some 32,.call { callee := .value (.func 24),args := #[.tmp 31,.const (.int .i64 20),.const (.int .i64 40)],argTypes := #[34,3,3] },3,"jobs.go:10",#[⟨5,.data⟩,⟨3,.chain⟩],none⟩,⟨some 33,.call { callee := .value (.func 27),args := #[.tmp 30,.tmp 32,.const (.int .i64 0),.const (.int .i64 100),.const (.int .i64 2)],argTypes := #[34,3,3,3,3] },23,"jobs.go:10",#[⟨4,.data⟩,⟨6,.data⟩,⟨6,.chain⟩],none⟩,⟨some 34,.fieldAddr 30 (.tmp 7) 0,0,"jobs.go:10",#[⟨0,.phase⟩,⟨1,.phase⟩,⟨2,.phase⟩,⟨3,.phase⟩,⟨4,.textOnly .lateStores⟩,⟨5,.textOnly .lateStores⟩,⟨6,.textOnly .lateStoresUnsure⟩,⟨7,.textOnly .lateStoresUnsure⟩],none⟩,⟨some 35,.fieldAddr 25 (.tmp 34) 1,0,"jobs.go:10",#[⟨8,.data⟩,⟨0,.phase⟩,⟨1,.phase⟩,⟨2,.phase⟩,⟨3,.phase⟩,⟨4,.textOnly .lateStores⟩,⟨5,.textOnly .lateStores⟩,⟨6,.textOnly .lateStoresUnsure⟩,⟨7,.textOnly .lateStoresUnsure⟩],none⟩,⟨none,.store 23 (.tmp 35) (.tmp 29),0,"jobs.go:10",#[⟨9,.data⟩,⟨3,.data⟩,⟨7,.chain⟩,⟨0,.phase⟩,⟨1,.phase⟩,⟨2,.phase⟩,⟨3,.phase⟩,⟨4,.textOnly .lateStores⟩,⟨5,.textOnly .lateStores⟩,⟨6,.textOnly .lateStoresUnsure⟩,⟨7,.textOnly .lateStoresUnsure⟩],none⟩,⟨some 36,.fieldAddr 30 (.tmp 7) 0,0,"jobs.go:10",#[⟨0,.phase⟩,⟨1,.phase⟩,⟨2,.phase⟩,⟨3,.phase⟩,⟨4,.phase⟩,⟨5,.phase⟩,⟨6,.phase⟩,⟨7,.phase⟩,⟨8,.phase⟩,⟨9,.phase⟩,⟨10,.phase⟩],none⟩,⟨some 37,.fieldAddr 25 (.tmp 36) 2,0,"jobs.go:10",#[⟨11,.data⟩,⟨0,.phase⟩,⟨1,.phase⟩,⟨2,.phase⟩,⟨3,.phase⟩,⟨4,.phase⟩,⟨5,.phase⟩,⟨6,.phase⟩,⟨7,.phase⟩,⟨8,.phase⟩,⟨9,.phase⟩,⟨10,.phase⟩],none⟩,⟨none,.store 23 (.tmp 37) (.tmp 33),0,"jobs.go:10",#[⟨12,.data⟩,⟨7,.data⟩,⟨10,.chain⟩,⟨0,.phase⟩,⟨1,.phase⟩,⟨2,.phase⟩,⟨3,.phase⟩,⟨4,.phase⟩,⟨5,.phase⟩,⟨6,.phase⟩,⟨7,.phase⟩,⟨8,.phase⟩,⟨9,.phase⟩,⟨10,.phase⟩],none⟩] false) jorest5 := by kernel_rfl
set_option maxRecDepth 1000000 in
theorem jorest5_eq : jorest5 = .seq (Code.region 5 #[⟨some 38,.move (.tmp 0),34,"jobs.go:11",#[],none⟩,⟨some 39,.move (.tmp 0),34,"jobs.go:11",#[],none⟩,⟨some 40,.call { callee := .value (.func 24),args := #[.tmp 39,.const (.int .i64 1),.const (.int .i64 6)],argTypes := #[34,3,3] },3,"jobs.go:11",#[⟨1,.data⟩],none⟩,⟨some 41,.move (.tmp 2),3,"jobs.go:11",#[],none⟩,⟨some 42,.call { callee := .value (.func 27),args := #[.tmp 38,.tmp 40,.const (.int .i64 0),.const (.int .i64 12),.tmp 41],argTypes := #[34,3,3,3,3] },23,"jobs.go:11",#[⟨0,.data⟩,⟨2,.data⟩,⟨3,.data⟩,⟨2,.chain⟩],none⟩,⟨some 43,.move (.tmp 0),34,"jobs.go:11",#[],none⟩,⟨some 44,.move (.tmp 0),34,"jobs.go:11",#[],none⟩,⟨some 45,.call { callee := .value (.func 24),args := #[.tmp 44,.const (.int .i64 1),.const (.int .i64 6)],argTypes := #[34,3,3] },3,"jobs.go:11",#[⟨6,.data⟩,⟨4,.chain⟩],none⟩,⟨some 46,.move (.tmp 2),3,"jobs.go:11",#[],none⟩,⟨some 47,.call { callee := .value (.func 27),args := #[.tmp 43,.tmp 45,.const (.int .i64 0),.const (.int .i64 12),.tmp 46],argTypes := #[34,3,3,3,3] },23,"jobs.go:11",#[⟨5,.data⟩,⟨7,.data⟩,⟨8,.data⟩,⟨7,.chain⟩],none⟩,⟨some 48,.fieldAddr 30 (.tmp 7) 1,0,"jobs.go:11",#[⟨0,.phase⟩,⟨1,.phase⟩,⟨2,.phase⟩,⟨3,.phase⟩,⟨4,.phase⟩,⟨5,.textOnly .lateStores⟩,⟨6,.textOnly .lateStores⟩,⟨7,.textOnly .lateStoresUnsure⟩,⟨8,.textOnly .lateStores⟩,⟨9,.textOnly .lateStoresUnsure⟩],none⟩,⟨some 49,.fieldAddr 27 (.tmp 48) 0,0,"jobs.go:11",#[⟨10,.data⟩,⟨0,.phase⟩,⟨1,.phase⟩,⟨2,.phase⟩,⟨3,.phase⟩,⟨4,.phase⟩,⟨5,.textOnly .lateStores⟩,⟨6,.textOnly .lateStores⟩,⟨7,.textOnly .lateStoresUnsure⟩,⟨8,.textOnly .lateStores⟩,⟨9,.textOnly .lateStoresUnsure⟩],none⟩,⟨none,.store 23 (.tmp 49) (.tmp 42),0,"jobs.go:11",#[⟨11,.data⟩,⟨4,.data⟩,⟨9,.chain⟩,⟨0,.phase⟩,⟨1,.phase⟩,⟨2,.phase⟩,⟨3,.phase⟩,⟨4,.phase⟩,⟨5,.textOnly .lateStores⟩,⟨6,.textOnly .lateStores⟩,⟨7,.textOnly .lateStoresUnsure⟩,⟨8,.textOnly .lateStores⟩,⟨9,.textOnly .lateStoresUnsure⟩],none⟩,⟨some 50,.fieldAddr 30 (.tmp 7) 1,0,"jobs.go:11",#[⟨0,.phase⟩,⟨1,.phase⟩,⟨2,.phase⟩,⟨3,.phase⟩,⟨4,.phase⟩,⟨5,.phase⟩,⟨6,.phase⟩,⟨7,.phase⟩,⟨8,.phase⟩,⟨9,.phase⟩,⟨10,.phase⟩,⟨11,.phase⟩,⟨12,.phase⟩],none⟩,⟨some 51,.fieldAddr 27 (.tmp 50) 1,0,"jobs.go:11",#[⟨13,.data⟩,⟨0,.phase⟩,⟨1,.phase⟩,⟨2,.phase⟩,⟨3,.phase⟩,⟨4,.phase⟩,⟨5,.phase⟩,⟨6,.phase⟩,⟨7,.phase⟩,⟨8,.phase⟩,⟨9,.phase⟩,⟨10,.phase⟩,⟨11,.phase⟩,⟨12,.phase⟩],none⟩,⟨none,.store 23 (.tmp 51) (.tmp 47),0,"jobs.go:11",#[⟨14,.data⟩,⟨9,.data⟩,⟨12,.chain⟩,⟨0,.phase⟩,⟨1,.phase⟩,⟨2,.phase⟩,⟨3,.phase⟩,⟨4,.phase⟩,⟨5,.phase⟩,⟨6,.phase⟩,⟨7,.phase⟩,⟨8,.phase⟩,⟨9,.phase⟩,⟨10,.phase⟩,⟨11,.phase⟩,⟨12,.phase⟩],none⟩] false) jorest6 := by kernel_rfl
set_option maxRecDepth 1000000 in
theorem jorest6_eq : jorest6 = .seq (Code.region 6 #[⟨some 52,.move (.tmp 0),34,"jobs.go:12",#[],none⟩,⟨some 53,.move (.tmp 0),34,"jobs.go:12",#[],none⟩,⟨some 54,.call { callee := .value (.func 26),args := #[.tmp 53,.const (.int .i64 4)],argTypes := #[34,3] },3,"jobs.go:12",#[⟨1,.data⟩],none⟩,⟨some 55,.call { callee := .value (.func 27),args := #[.tmp 52,.tmp 54,.const (.int .i64 0),.const (.int .i64 12),.const (.int .i64 1)],argTypes := #[34,3,3,3,3] },23,"jobs.go:12",#[⟨0,.data⟩,⟨2,.data⟩,⟨2,.chain⟩],none⟩,⟨some 56,.move (.tmp 0),34,"jobs.go:12",#[],none⟩,⟨some 57,.move (.tmp 0),34,"jobs.go:12",#[],none⟩,⟨some 58,.call { callee := .value (.func 26),args := #[.tmp 57,.const (.int .i64 4)],argTypes := #[34,3] },3,"jobs.go:12",#[⟨5,.data⟩,⟨3,.chain⟩],none⟩,⟨some 59,.call { callee := .value (.func 27),args := #[.tmp 56,.tmp 58,.const (.int .i64 0),.const (.int .i64 12),.const (.int .i64 1)],argTypes := #[34,3,3,3,3] },23,"jobs.go:12",#[⟨4,.data⟩,⟨6,.data⟩,⟨6,.chain⟩],none⟩,⟨some 60,.fieldAddr 30 (.tmp 7) 1,0,"jobs.go:12",#[⟨0,.phase⟩,⟨1,.phase⟩,⟨2,.phase⟩,⟨3,.phase⟩,⟨4,.textOnly .lateStores⟩,⟨5,.textOnly .lateStores⟩,⟨6,.textOnly .lateStoresUnsure⟩,⟨7,.textOnly .lateStoresUnsure⟩],none⟩,⟨some 61,.fieldAddr 27 (.tmp 60) 2,0,"jobs.go:12",#[⟨8,.data⟩,⟨0,.phase⟩,⟨1,.phase⟩,⟨2,.phase⟩,⟨3,.phase⟩,⟨4,.textOnly .lateStores⟩,⟨5,.textOnly .lateStores⟩,⟨6,.textOnly .lateStoresUnsure⟩,⟨7,.textOnly .lateStoresUnsure⟩],none⟩,⟨none,.store 23 (.tmp 61) (.tmp 55),0,"jobs.go:12",#[⟨9,.data⟩,⟨3,.data⟩,⟨7,.chain⟩,⟨0,.phase⟩,⟨1,.phase⟩,⟨2,.phase⟩,⟨3,.phase⟩,⟨4,.textOnly .lateStores⟩,⟨5,.textOnly .lateStores⟩,⟨6,.textOnly .lateStoresUnsure⟩,⟨7,.textOnly .lateStoresUnsure⟩],none⟩,⟨some 62,.fieldAddr 30 (.tmp 7) 1,0,"jobs.go:12",#[⟨0,.phase⟩,⟨1,.phase⟩,⟨2,.phase⟩,⟨3,.phase⟩,⟨4,.phase⟩,⟨5,.phase⟩,⟨6,.phase⟩,⟨7,.phase⟩,⟨8,.phase⟩,⟨9,.phase⟩,⟨10,.phase⟩],none⟩,⟨some 63,.fieldAddr 27 (.tmp 62) 3,0,"jobs.go:12",#[⟨11,.data⟩,⟨0,.phase⟩,⟨1,.phase⟩,⟨2,.phase⟩,⟨3,.phase⟩,⟨4,.phase⟩,⟨5,.phase⟩,⟨6,.phase⟩,⟨7,.phase⟩,⟨8,.phase⟩,⟨9,.phase⟩,⟨10,.phase⟩],none⟩,⟨none,.store 23 (.tmp 63) (.tmp 59),0,"jobs.go:12",#[⟨12,.data⟩,⟨7,.data⟩,⟨10,.chain⟩,⟨0,.phase⟩,⟨1,.phase⟩,⟨2,.phase⟩,⟨3,.phase⟩,⟨4,.phase⟩,⟨5,.phase⟩,⟨6,.phase⟩,⟨7,.phase⟩,⟨8,.phase⟩,⟨9,.phase⟩,⟨10,.phase⟩],none⟩] false) jorest7 := by kernel_rfl
set_option maxRecDepth 1000000 in
theorem jorest7_eq : jorest7 = .seq (Code.region 7 #[⟨some 64,.move (.tmp 0),34,"jobs.go:13",#[],none⟩,⟨some 65,.call { callee := .value (.func 24),args := #[.tmp 64,.const (.int .i64 10),.const (.int .i64 30)],argTypes := #[34,3,3] },3,"jobs.go:13",#[⟨0,.data⟩],none⟩,⟨some 66,.fieldAddr 30 (.tmp 7) 1,0,"jobs.go:13",#[⟨0,.phase⟩,⟨1,.phase⟩],none⟩,⟨some 67,.fieldAddr 27 (.tmp 66) 4,0,"jobs.go:13",#[⟨2,.data⟩,⟨0,.phase⟩,⟨1,.phase⟩],none⟩,⟨none,.store 3 (.tmp 67) (.tmp 65),0,"jobs.go:13",#[⟨3,.data⟩,⟨1,.data⟩,⟨1,.chain⟩,⟨0,.phase⟩,⟨1,.phase⟩],none⟩] false) jorest8 := by kernel_rfl
set_option maxRecDepth 1000000 in
theorem jorest8_eq : jorest8 = .seq (.seq (Code.region 8 #[⟨some 68,.move (.tmp 0),34,"jobs.go:14",#[],none⟩,⟨some 69,.call { callee := .value (.func 26),args := #[.tmp 68,.const (.int .i64 3)],argTypes := #[34,3] },3,"jobs.go:14",#[⟨0,.data⟩],none⟩,⟨some 9,.assign (.tmp 69),3,"jobs.go:14",#[⟨1,.data⟩,⟨1,.chain⟩,⟨0,.phase⟩,⟨1,.phase⟩],none⟩] false) (.block 0 (.loop (.seq (.seq (Code.region 9 #[⟨some 70,.move (.tmp 9),3,"jobs.go:14",#[],none⟩,⟨some 71,.binOp .gtr 3 (.tmp 70) (.const (.int .i64 0)) 3,4,"jobs.go:14",#[⟨0,.data⟩],none⟩] false) (.cond (.tmp 71) .skip (.exit 0))) (.seq (.block 1 (Code.region 11 #[⟨some 74,.fieldAddr 30 (.tmp 7) 2,0,"jobs.go:15",#[],none⟩,⟨some 75,.load 28 (.tmp 74),28,"jobs.go:15",#[⟨0,.data⟩],none⟩,⟨some 76,.move (.tmp 0),34,"jobs.go:15",#[],none⟩,⟨some 77,.move (.tmp 0),34,"jobs.go:15",#[],none⟩,⟨some 78,.call { callee := .value (.func 24),args := #[.tmp 77,.const (.int .i64 (-3)),.const (.int .i64 3)],argTypes := #[34,3,3] },3,"jobs.go:15",#[⟨3,.data⟩],none⟩,⟨some 79,.call { callee := .value (.func 27),args := #[.tmp 76,.tmp 78,.const (.int .i64 (-60)),.const (.int .i64 60),.const (.int .i64 2)],argTypes := #[34,3,3,3,3] },23,"jobs.go:15",#[⟨2,.data⟩,⟨4,.data⟩,⟨4,.chain⟩],none⟩,⟨some 80,.buildSlice 28 1 #[(0,.tmp 79)],28,"jobs.go:15",#[⟨5,.data⟩],none⟩,⟨some 81,.call { callee := .builtin .append,args := #[.tmp 75,.tmp 80],argTypes := #[28,28] },28,"jobs.go:15",#[⟨1,.data⟩,⟨6,.data⟩,⟨5,.chain⟩],none⟩,⟨some 82,.fieldAddr 30 (.tmp 7) 2,0,"jobs.go:15",#[⟨0,.phase⟩,⟨1,.phase⟩,⟨2,.phase⟩,⟨3,.phase⟩,⟨4,.phase⟩,⟨5,.phase⟩,⟨6,.phase⟩,⟨7,.phase⟩],none⟩,⟨none,.store 28 (.tmp 82) (.tmp 81),0,"jobs.go:15",#[⟨8,.data⟩,⟨7,.data⟩,⟨7,.chain⟩,⟨0,.phase⟩,⟨1,.phase⟩,⟨2,.phase⟩,⟨3,.phase⟩,⟨4,.phase⟩,⟨5,.phase⟩,⟨6,.phase⟩,⟨7,.phase⟩],none⟩] true)) (Code.region 10 #[⟨some 72,.move (.tmp 9),3,"jobs.go:14",#[],none⟩,⟨some 73,.binOp .sub 3 (.tmp 72) (.const (.int .i64 1)) 3,3,"jobs.go:14",#[⟨0,.data⟩],none⟩,⟨some 9,.assign (.tmp 73),3,"jobs.go:14",#[⟨1,.data⟩,⟨0,.phase⟩,⟨1,.phase⟩],none⟩] false)))))) jorest9 := by kernel_rfl
set_option maxRecDepth 1000000 in
theorem jorest9_eq : jorest9 = .seq (Code.region 12 #[⟨some 83,.load 30 (.tmp 7),30,"jobs.go:17",#[],none⟩,⟨none,.store 30 (.tmp 6) (.tmp 83),0,"jobs.go:17",#[⟨0,.data⟩,⟨0,.phase⟩],none⟩] false) .ret := by kernel_rfl

/-- What lies about in JobOf. -/
structure JS (b B0 : Nat) (w0 : World) (g6 g7 : Nat) (cs : Array Value) (w : World) : Prop where
  bk : Bk w g7 30 cs
  r6 : ∃ c6,Bk w g6 30 c6 ∧ c6.size = 18
  pt : Pt w b
  pb : PB b B0 w0 w
  ne : g6 ≠ b ∧ g7 ≠ b ∧ g6 ≠ g7 ∧ B0 ≤ g6 ∧ B0 ≤ g7 ∧ B0 ≤ w.heap.size
theorem JS.pot {b B0 : Nat} {w0 : World} {g6 g7 : Nat} {cs : Array Value} {w w' : World} (h : JS b B0 w0 g6 g7 cs w) (hk : PB b w.heap.size w w') (hp : Pt w' b) : JS b B0 w0 g6 g7 cs w' := by
  obtain ⟨c6,h6,hs⟩ := h.r6
  obtain ⟨n1,n2,n3,n4,n5,n6⟩ := h.ne
  exact ⟨h.bk.pb hk h.bk.lt n2,⟨c6,h6.pb hk h6.lt n1,hs⟩,hp,h.pb.trans hk n6,n1,n2,n3,n4,n5,Nat.le_trans n6 hk.size⟩
theorem JS.next {b B0 : Nat} {w0 : World} {g6 g7 : Nat} {cs : Array Value} {w w' : World} (h : JS b B0 w0 g6 g7 cs w) (hb : Below w.heap.size w w') : JS b B0 w0 g6 g7 cs w' := h.pot (PB.of hb) (h.pt.below hb h.pt.lt)
theorem JS.put {b B0 : Nat} {w0 : World} {g6 g7 : Nat} {cs : Array Value} {w : World} (h : JS b B0 w0 g6 g7 cs w) (o : Nat) (v : Value) : JS b B0 w0 g6 g7 (cs.setIfInBounds o v) (w.setCell ⟨g7,o,none⟩ v) := by
  obtain ⟨c6,h6,hs⟩ := h.r6
  obtain ⟨n1,n2,n3,n4,n5,n6⟩ := h.ne
  have q : Below B0 w (w.setCell ⟨g7,o,none⟩ v) := (Below.refl _ _).setCell (p := ⟨g7,o,none⟩) n5 _
  exact ⟨h.bk.put o v,⟨c6,h6.other (p := ⟨g7,o,none⟩) n3 _,hs⟩,h.pt.other (p := ⟨g7,o,none⟩) (fun e => n2 e.symm) _,h.pb.setCell (p := ⟨g7,o,none⟩) n5 _,n1,n2,n3,n4,n5,Nat.le_trans n6 q.size⟩
/-- JobOf's own post. -/
def JobQ9 (b : Nat) (w : World) (e : Ending) (w' : World) : Prop :=
  ∃ (J : Jb) (a : Option Addr) (n c : Nat),e = .returned (.agg (jobC J (.slice a n c))) ∧ n = J.sh.length ∧ Rg w' w'.heap.size a J.sh ∧ J.check = 0 ∧ PB b w.heap.size w w' ∧ Pt w' b ∧ w'.ownsRow w.heap.size 23 2 (.slice a n c) n (rgCells J.sh) ∧ 18 ≤ J.t1 ∧ 18 ≤ J.r1
def JobOKq (x y : Int) : Prop := ∀ (b : Nat) (w : World),Pt w b → Calls Tryz.prog 6 #[.pointer (some ⟨b,0,none⟩),.int .i64 x,.int .i64 y] w (JobQ9 b w)
theorem own_of9 {w w' : World} {v : Value} {B e s n : Nat} {xs : List Value} (h : w.ownsRow B e s v n xs) (hk : ∀ g,B ≤ g → g < w.heap.size → w'.heap[g]? = w.heap[g]?) : w'.ownsRow B e s v n xs :=
  ⟨h.1,h.2.imp id fun ⟨g,cap,cur,a,b,c,d⟩ => ⟨g,cap,cur,a,b,(hk g b (Array.getElem?_eq_some_iff.1 c).1).trans c,d⟩⟩
theorem own_lo9 {w : World} {B B' e n : Nat} {v : Value} {xs : List Value} (h : w.ownsRow B e 2 v n xs) (hB : B' ≤ B) : w.ownsRow B' e 2 v n xs :=
  ⟨h.1,h.2.imp id fun ⟨g,cap,cur,a,b,c⟩ => ⟨g,cap,cur,a,Nat.le_trans hB b,c⟩⟩
def QJO (b : Nat) (w0 : World) : Exit → Act → World → Prop := bodyPost Tryz.prog Tryz.f6 (JobQ9 b w0)
set_option maxHeartbeats 1000000 in
set_option maxRecDepth 1000000 in
theorem jopart9 {w0 : World} {b B0 g6 g7 : Nat} {wide loose : Int} {w : World} {wi me p1 p2 t1 t2 r1 r2 u1 u2 d1 d2 x1 x2 y1 y2 le : Int} {sh : List R2} {sa : Option Addr} {sn sc : Nat} {u3 u4 u5 u8 u9 A0 A1 A2 A3 A4 A5 A6 A7 A8 A9 Aa Ab Ac Ad Ae Af Ag Ah Ai Aj Ak Al Am An Ao Ap Aq Ar As At Au Av Aw Ax Ay Az C0 C1 C2 C3 C4 C5 C6 C7 C8 C9 Ca Cb Cc Cd Ce Cf Cg Ch Ci Cj Ck Cl Cm Cn Co Cp Cq Cr Cs Ct Cu Cv Cw Cx Cy Cz D0 D1 : Value} (hwd : 0 ≤ wide ∧ wide ≤ 40) (hlo : 0 ≤ loose ∧ loose ≤ 40) (hwi : 1 ≤ wi ∧ wi ≤ 6) (hme : 0 ≤ me ∧ me ≤ 3) (hp : -60 ≤ p1 ∧ p1 ≤ p2 ∧ p2 ≤ 60) (ht : 18 ≤ t1 ∧ t1 ≤ t2 ∧ t2 ≤ 100) (hr : 18 ≤ r1 ∧ r1 ≤ r2 ∧ r2 ≤ 100) (hu : 0 ≤ u1 ∧ u1 ≤ u2 ∧ u2 ≤ 12) (hd : 0 ≤ d1 ∧ d1 ≤ d2 ∧ d2 ≤ 12) (hx : 0 ≤ x1 ∧ x1 ≤ x2 ∧ x2 ≤ 12) (hy : 0 ≤ y1 ∧ y1 ≤ y2 ∧ y2 ≤ 12) (hle : 0 ≤ le ∧ le ≤ 100) (hsh : ∀ s ∈ sh,-60 ≤ s.1 ∧ s.1 ≤ s.2 ∧ s.2 ≤ 60) (hln : sh.length ≤ 4) (hsn : sn = sh.length) (hrg : Rg w w.heap.size sa sh) (hrb : ∀ q o,sa = some ⟨q,o,none⟩ → q ≠ g6) {Bs : Nat} (hown : w.ownsRow Bs 23 2 (.slice sa sn sc) sn (rgCells sh)) (hBs : B0 ≤ Bs ∧ g6 < Bs) (hs : JS b B0 w0 g6 g7 (jobC ⟨p1,p2,t1,t2,r1,r2,u1,u2,d1,d2,x1,x2,y1,y2,le,wi,me,sh⟩ (.slice sa sn sc)) w) (hB : B0 = w0.heap.size) : Code.wp Tryz.prog jorest9 (QJO b w0) ⟨#[(.pointer (some ⟨b,0,none⟩)),(.int .i64 wide),(.int .i64 loose),u3,u4,u5,(.pointer (some ⟨g6,0,none⟩)),(.pointer (some ⟨g7,0,none⟩)),u8,u9,A0,A1,A2,A3,A4,A5,A6,A7,A8,A9,Aa,Ab,Ac,Ad,Ae,Af,Ag,Ah,Ai,Aj,Ak,Al,Am,An,Ao,Ap,Aq,Ar,As,At,Au,Av,Aw,Ax,Ay,Az,C0,C1,C2,C3,C4,C5,C6,C7,C8,C9,Ca,Cb,Cc,Cd,Ce,Cf,Cg,Ch,Ci,Cj,Ck,Cl,Cm,Cn,Co,Cp,Cq,Cr,Cs,Ct,Cu,Cv,Cw,Cx,Cy,Cz,D0,D1],[]⟩ w := by
  rw [jorest9_eq]
  obtain ⟨c6,h6,h6s⟩ := hs.r6
  obtain ⟨n1,n2,n3,n4,n5,n6⟩ := hs.ne
  go_wp2_with (first | (refine wpList_load_row rfl 30 _ rfl g7 rfl _ (jobC ⟨p1,p2,t1,t2,r1,r2,u1,u2,d1,d2,x1,x2,y1,y2,le,wi,me,sh⟩ (.slice sa sn sc)) _ _ hs.bk Tryz.underlying30 rfl szJob ?_) | (refine wpList_store_row rfl 30 _ _ rfl g6 (jobC ⟨p1,p2,t1,t2,r1,r2,u1,u2,d1,d2,x1,x2,y1,y2,le,wi,me,sh⟩ (.slice sa sn sc)) rfl rfl 30 c6 h6 szJob h6s (oneJob _ _ _ _) ?_))
  refine bodyPost_ret (results_cell_row Tryz.results6 _ _ _ _ _ _ _ rfl (h6.row (jobC ⟨p1,p2,t1,t2,r1,r2,u1,u2,d1,d2,x1,x2,y1,y2,le,wi,me,sh⟩ (.slice sa sn sc))) Tryz.underlying30 rfl szJob) rfl ?_
  have hbl : Below B0 w (w.setRow g6 (jobC ⟨p1,p2,t1,t2,r1,r2,u1,u2,d1,d2,x1,x2,y1,y2,le,wi,me,sh⟩ (.slice sa sn sc))) := below_setRow (Below.refl _ _) n4 _
  refine ⟨⟨p1,p2,t1,t2,r1,r2,u1,u2,d1,d2,x1,x2,y1,y2,le,wi,me,sh⟩,sa,sn,sc,rfl,hsn,fun k r hr => ?_,?_,?_,hs.pt.rowOther n1.symm _,?_,ht.1,hr.1⟩
  · obtain ⟨q,off,ha,hb,h0,h1⟩ := hrg k r hr
    have hq := setRow_other w g6 q (jobC ⟨p1,p2,t1,t2,r1,r2,u1,u2,d1,d2,x1,x2,y1,y2,le,wi,me,sh⟩ (.slice sa sn sc)) (hrb q off ha)
    exact ⟨q,off,ha,Nat.lt_of_lt_of_le hb hbl.size,(World.cell?_of_block hq).trans h0,(World.cell?_of_block hq).trans h1⟩
  · exact Jb.Full.check ⟨hp,⟨by show 0 ≤ t1; omega,ht.2⟩,⟨by show 0 ≤ r1; omega,hr.2⟩,hu,hd,hx,hy,hle,⟨by show 0 ≤ wi; omega,by show wi ≤ 60; omega⟩,⟨hme.1,by show me ≤ 6; omega⟩,hln,hsh⟩
  · rw [← hB]
    exact hs.pb.below hbl (Nat.le_refl _)
  · rw [← hB]
    exact own_lo9 (own_of9 hown (fun g hg _ => setRow_other w g6 g _ (by omega))) hBs.1
end Go.Proofs.YtljefjngmembkaaGreatDoor
