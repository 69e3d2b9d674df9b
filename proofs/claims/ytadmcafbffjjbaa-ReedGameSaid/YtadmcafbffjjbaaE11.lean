/- Part 11 of the proof: PotK, PotI, KitG. -/
import Derived.Deep.RegionHeld3
import Derived.Test.YtadmcafbffjjbaaE10
import Derived.Test.YtadmcafbffjjbaaE00
namespace Go.Proofs.Ytadmcafbffjjbaa
set_option linter.all false
open Go.RowKit

def Pt (w : World) (b : Nat) : Prop := ∃ t s,Bk w b t #[.int .u64 s]
structure PB (b B : Nat) (w w' : World) : Prop where
  os : w'.os = w.os
  tape : w'.tape = w.tape
  output : w'.output = w.output
  size : w.heap.size ≤ w'.heap.size
  heap : ∀ k,k < B → k ≠ b → w'.heap[k]? = w.heap[k]?
section
variable {b B B' : Nat} {w w' w'' : World} {t : TypeId} {s : Int} {p : Addr}
theorem Pt.lt (h : Pt w b) : b < w.heap.size := by obtain ⟨t,s,h⟩ := h; exact h.lt
theorem Pt.alloc (h : Pt w b) (o : Obj) : Pt (w.alloc o) b := by obtain ⟨t,s,h⟩ := h; exact ⟨t,s,h.alloc o⟩
theorem Pt.drew (h : Pt w b) : Pt w.drew b := h
theorem Pt.other (h : Pt w b) (hp : b ≠ p.block) (u : Value) : Pt (w.setCell p u) b := by obtain ⟨t,s,h⟩ := h; exact ⟨t,s,h.other hp u⟩
theorem Pt.below (h : Pt w b) (hb : Below B w w') (hg : b < B) : Pt w' b := by obtain ⟨t,s,h⟩ := h; exact ⟨t,s,h.below hb hg⟩
theorem Pt.grown {row : Option Nat} (h : Pt w b) (hb : w.grownBy w' row) (hg : some b ≠ row) : Pt w' b := by obtain ⟨t,s,h⟩ := h; exact ⟨t,s,h.grown hb hg⟩
theorem Pt.rowOther (h : Pt w b) {g : Nat} (hk : b ≠ g) (ds : Array Value) : Pt (w.setRow g ds) b := by obtain ⟨t,s,h⟩ := h; exact ⟨t,s,h.rowOther hk ds⟩
theorem PB.refl (b B : Nat) (w : World) : PB b B w w := ⟨rfl,rfl,rfl,Nat.le_refl _,fun _ _ _ => rfl⟩
theorem PB.trans (h : PB b B w w') (h' : PB b B' w' w'') (hB : B ≤ B') : PB b B w w'' := ⟨h'.os.trans h.os,h'.tape.trans h.tape,h'.output.trans h.output,Nat.le_trans h.size h'.size,fun k hk hb => (h'.heap k (Nat.lt_of_lt_of_le hk hB) hb).trans (h.heap k hk hb)⟩
theorem PB.below (h : PB b B w w') (h' : Below B' w' w'') (hB : B ≤ B') : PB b B w w'' := ⟨h'.os.trans h.os,h'.tape.trans h.tape,h'.output.trans h.output,Nat.le_trans h.size h'.size,fun k hk hb => (h'.block k (Nat.lt_of_lt_of_le hk hB)).trans (h.heap k hk hb)⟩
theorem PB.of (h : Below B w w') : PB b B w w' := ⟨h.os,h.tape,h.output,h.size,fun k hk _ => h.block k hk⟩
theorem PB.toBelow (h : PB b B w w') (hB : B ≤ b) : Below B w w' := ⟨h.os,h.tape,h.output,h.size,fun k hk => h.heap k hk (by omega)⟩
theorem PB.mono (h : PB b B w w') (hB : B' ≤ B) : PB b B' w w' := ⟨h.os,h.tape,h.output,h.size,fun k hk => h.heap k (by omega)⟩
theorem PB.alloc (h : PB b B w w') (hB : B ≤ w'.heap.size) (o : Obj) : PB b B w (w'.alloc o) := h.below ((Below.refl _ _).alloc hB o) (Nat.le_refl _)
theorem PB.setCell (h : PB b B w w') (hp : B ≤ p.block) (u : Value) : PB b B w (w'.setCell p u) := h.below ((Below.refl _ _).setCell hp u) (Nat.le_refl _)
theorem Bk.pb {g : Nat} {cs : Array Value} (h : Bk w g t cs) (hk : PB b B w w') (hg : g < B) (hb : g ≠ b) : Bk w' g t cs := (hk.heap g hg hb).trans h
theorem Pt.cell {i : Nat} {v : Value} (h : Pt w b) (hc : w.cell? ⟨b,i,none⟩ = some v) : ∃ s,v = .int .u64 s := by
  obtain ⟨t,s,h⟩ := h
  rw [cell_of_row w b i _ t (0,0) h] at hc
  cases i with
  | zero => exact ⟨s,by simpa using hc.symm⟩
  | succ i => simp at hc
theorem PB.cell (h : PB b B w w') (hp : p.block < B) (hb : p.block ≠ b) : w'.cell? p = w.cell? p := World.cell?_of_block (h.heap _ hp hb)
theorem Rg.pb {a : Option Addr} {l : List R2} (h : Rg w w.heap.size a l) (hp : Pt w b) (hk : PB b w.heap.size w w') : Rg w' w'.heap.size a l := fun k r hr => by
  obtain ⟨g,off,e,hg,h1,h2⟩ := h k r hr
  have hne : g ≠ b := by
    rintro rfl
    obtain ⟨s,e⟩ := hp.cell h1
    cases e
  have := hk.size
  exact ⟨g,off,e,by omega,(hk.cell hg hne).trans h1,(hk.cell hg hne).trans h2⟩
theorem Is.pb {a : Option Addr} {l : List Int} (h : Is w w.heap.size a l) (hp : Pt w b) (hk : PB b w.heap.size w w') : Is w' w'.heap.size a l := fun k r hr => by
  obtain ⟨g,off,e,hg,h1⟩ := h k r hr
  have hne : g ≠ b := by
    rintro rfl
    obtain ⟨s,e⟩ := hp.cell h1
    cases e
  have := hk.size
  exact ⟨g,off,e,by omega,(hk.cell hg hne).trans h1⟩
theorem Put.pb {s' : Int} (hb : Bk w b t #[.int .u64 s]) (h : Put w w' b s s') : PB b w.heap.size w w' ∧ Pt w' b := by
  rcases h with rfl | ⟨rfl,_⟩
  · exact ⟨⟨rfl,rfl,rfl,by simp,fun k hk hkb => Below.heap_setCell w _ _ k hkb⟩,t,s',hb.put1 _⟩
  · exact ⟨PB.refl _ _ _,t,s,hb⟩
end

def PotEnd (b : Nat) (w : World) (P : Int → Prop) (e : Ending) (w' : World) : Prop := ∃ x,e = .returned (.int .i64 x) ∧ P x ∧ PB b w.heap.size w w' ∧ Pt w' b
theorem uptoP (b : Nat) (m : Int) (w : World) (hp : Pt w b) (hm : 0 ≤ m ∧ m ≤ 1000) : Calls Try.prog 22 #[.pointer (some ⟨b,0,none⟩),.int .i64 m] w (PotEnd b w fun x => 0 ≤ x ∧ x ≤ m) := by
  obtain ⟨t,s,hb⟩ := hp
  refine (upto_any b s m w hm.2 (hb.at_ 0 _ rfl) (hb.free 0)).mono ?_
  rintro e w' ⟨rfl,hput⟩
  have h1 := uptoF_in s m hm.2
  have h2 := hput.pb hb
  exact ⟨_,rfl,by omega,h2.1,h2.2⟩
set_option maxHeartbeats 400000 in
theorem withinP (b : Nat) (lo hi : Int) (w : World) (hp : Pt w b) (h : -400 ≤ lo ∧ lo ≤ hi ∧ hi ≤ 400) : Calls Try.prog 17 #[.pointer (some ⟨b,0,none⟩),.int .i64 lo,.int .i64 hi] w (PotEnd b w fun x => lo ≤ x ∧ x ≤ hi) := by
  obtain ⟨h1,h2,h3⟩ := h
  go_enter Try.func17,Try.ntmps17
  go_wp2_with (go_at_call 22; refine (uptoP _ _ _ hp (by omega)).mono ?_; rintro e w1 ⟨x,rfl,hx,hk,hp1⟩; obtain ⟨hx1,hx2⟩ := hx)
  go_ret
  exact ⟨_,rfl,by omega,hk,hp1⟩
theorem of3P (b q : Nat) (x y z : Int) (t : TypeId) (w : World) (hp : Pt w b) (hbq : b ≠ q) (hq : Bk w q t #[.int .i64 x,.int .i64 y,.int .i64 z]) : Calls Try.prog 21 #[.pointer (some ⟨b,0,none⟩),.slice (some ⟨q,0,none⟩) 3 3] w (PotEnd b w fun v => v = x ∨ v = y ∨ v = z) := by
  obtain ⟨tb,s,hb⟩ := hp
  refine (of3_any b q 0 s x y z w (hb.at_ 0 _ rfl) (hb.free 0) hbq (hq.at_ 0 _ rfl) (hq.at_ 1 _ rfl) (hq.at_ 2 _ rfl)).mono ?_
  rintro e w' ⟨rfl,hput⟩
  have h2 := hput.pb hb
  refine ⟨_,rfl,?_,h2.1,h2.2⟩
  unfold pick3
  split
  · exact .inl rfl
  · split
    · exact .inr (.inl rfl)
    · exact .inr (.inr rfl)
end Go.Proofs.Ytadmcafbffjjbaa
namespace Go.Proofs.Ytadmcafbffjjbaa
set_option linter.all false
open Go.RowKit

set_option maxHeartbeats 400000 in
theorem innerP (b : Nat) (lo hi : Int) (w : World) (hp : Pt w b) (h : -400 ≤ lo ∧ lo ≤ hi ∧ hi ≤ 400) : Calls Try.prog 67 #[.pointer (some ⟨b,0,none⟩),.agg #[.int .i64 lo,.int .i64 hi]] w (PotEnd b w fun x => lo ≤ x ∧ x ≤ hi) := by
  have hlt := hp.lt
  have b0 : Bk (w.alloc (.cells #[.int .i64 lo,.int .i64 hi] 23)) w.heap.size 23 #[.int .i64 lo,.int .i64 hi] := Bk.new w _ _
  have p0 := hp.alloc (.cells #[.int .i64 lo,.int .i64 hi] 23)
  have k0 : PB b w.heap.size w (w.alloc (.cells #[.int .i64 lo,.int .i64 hi] 23)) := (PB.refl _ _ _).alloc (Nat.le_refl _) _
  go_enter Try.func67,Try.ntmps67
  have hne : w.heap.size ≠ b := by omega
  have hne' : b ≠ w.heap.size := by omega
  go_wp2_with fail
  go_region_held3 (fun w' => w'.cell? ⟨w.heap.size,0,none⟩ = some (.int .i64 lo) ∧ w'.cell? ⟨w.heap.size,1,none⟩ = some (.int .i64 hi)) (first | exact ⟨b2.at_ 0 _ rfl,b2.at_ 1 _ rfl⟩ | exact ⟨b0.at_ 0 _ rfl,b0.at_ 1 _ rfl⟩ | exact ⟨b1.at_ 0 _ rfl,b1.at_ 1 _ rfl⟩ | go_keep)
    (first
    | (go_at_call 17; refine (withinP _ _ _ _ (by first | exact p0 | exact p0.drew) h).mono ?_; rintro e w1 ⟨x,rfl,hx,hk1,hp1⟩; have hz1 := hk1.size; have b1 := (by first | exact b0.pb hk1 (by simp) hne | exact b0.drew.pb hk1 (by simp) hne : Bk w1 w.heap.size 23 #[.int .i64 lo,.int .i64 hi]); have k1 := (by first | exact k0.trans hk1 (by simp) | exact PB.trans (PB.below k0 (Below.refl _ _).drew (Nat.le_refl _)) hk1 (by simp) : PB b w.heap.size w w1); simp at hz1)
    | (go_at_call 21; refine (of3P b w1.heap.size lo hi x _ _ (by first | exact hp1.alloc _ | exact (hp1.alloc _).drew) (by have := hp1.lt; omega) (by first | exact Bk.new _ _ _ | exact (Bk.new _ _ _).drew)).mono ?_; rintro e w2 ⟨y,rfl,hy,hk2,hp2⟩; have hl1 := b1.lt; have b2 := (by first | exact (b1.alloc _).pb hk2 (by simp; omega) hne | exact (b1.alloc _).drew.pb hk2 (by simp; omega) hne : Bk w2 w.heap.size 23 #[.int .i64 lo,.int .i64 hi])))
  go_wp2
  go_ret
  refine ⟨y,rfl,by omega,?_,hp2⟩
  exact (k1.alloc (by omega) _).trans hk2 (by simp; omega)
end Go.Proofs.Ytadmcafbffjjbaa
namespace Go.Proofs.Ytadmcafbffjjbaa
set_option linter.all false
open Go.RowKit

theorem szFiled : (Try.prog.info? 57).map (·.size) = some 3 := by kernel_rfl
abbrev fdV (x : Fd) : Value := .agg #[.int .i64 x.p,.int .i64 x.t,.int .i64 x.r]
set_option maxHeartbeats 2000000 in
set_option maxRecDepth 100000 in
theorem filedOf_any (b : Nat) (J : Jb) (s : Value) (w : World) (hp : Pt w b) (hJ : J.In 200) (h1 : J.p1 ≤ J.p2) (h2 : J.t1 ≤ J.t2) (h3 : J.r1 ≤ J.r2) :
    Calls Try.prog 34 #[.pointer (some ⟨b,0,none⟩),.agg (jobC J s)] w fun e w' => ∃ x : Fd,e = .returned (fdV x) ∧ J.tg.has x ∧ PB b w.heap.size w w' ∧ Pt w' b := by
  have hlt := hp.lt
  have P1 := hJ.p1
  have P2 := hJ.p2
  have T1 := hJ.t1
  have T2 := hJ.t2
  have R1 := hJ.r1
  have R2 := hJ.r2
  clear hJ
  have b0 : Bk ((w.alloc (.cells (jobC J s) 30)).alloc (.cells #[.int .i64 0,.int .i64 0,.int .i64 0] 57)) w.heap.size 30 (jobC J s) := (Bk.new w _ _).alloc _
  have r0 : Bk ((w.alloc (.cells (jobC J s) 30)).alloc (.cells #[.int .i64 0,.int .i64 0,.int .i64 0] 57)) (w.heap.size + 1) 57 #[.int .i64 0,.int .i64 0,.int .i64 0] := Bk.newAt _ _ _ _ (by simp)
  have p0 := (hp.alloc (.cells (jobC J s) 30)).alloc (.cells #[.int .i64 0,.int .i64 0,.int .i64 0] 57)
  have k0 : PB b w.heap.size w ((w.alloc (.cells (jobC J s) 30)).alloc (.cells #[.int .i64 0,.int .i64 0,.int .i64 0] 57)) := ((PB.refl _ _ _).alloc (Nat.le_refl _) _).alloc (by simp) _
  have hne : w.heap.size ≠ b := by omega
  have hne2 : w.heap.size + 1 ≠ b := by omega
  go_enter Try.func34,Try.ntmps34
  go_wp2_with fail
  go_region_held3 (fun w' => w'.cell? ⟨w.heap.size,0,none⟩ = some (.int .i64 J.p1) ∧ w'.cell? ⟨w.heap.size,1,none⟩ = some (.int .i64 J.p2) ∧ w'.cell? ⟨w.heap.size,2,none⟩ = some (.int .i64 J.t1) ∧ w'.cell? ⟨w.heap.size,3,none⟩ = some (.int .i64 J.t2) ∧ w'.cell? ⟨w.heap.size,4,none⟩ = some (.int .i64 J.r1) ∧ w'.cell? ⟨w.heap.size,5,none⟩ = some (.int .i64 J.r2)) (first | exact ⟨b3.at_ 0 _ rfl,b3.at_ 1 _ rfl,b3.at_ 2 _ rfl,b3.at_ 3 _ rfl,b3.at_ 4 _ rfl,b3.at_ 5 _ rfl⟩ | exact ⟨b2.at_ 0 _ rfl,b2.at_ 1 _ rfl,b2.at_ 2 _ rfl,b2.at_ 3 _ rfl,b2.at_ 4 _ rfl,b2.at_ 5 _ rfl⟩ | exact ⟨b1.at_ 0 _ rfl,b1.at_ 1 _ rfl,b1.at_ 2 _ rfl,b1.at_ 3 _ rfl,b1.at_ 4 _ rfl,b1.at_ 5 _ rfl⟩ | exact ⟨b0.at_ 0 _ rfl,b0.at_ 1 _ rfl,b0.at_ 2 _ rfl,b0.at_ 3 _ rfl,b0.at_ 4 _ rfl,b0.at_ 5 _ rfl⟩ | go_keep)
    (first
    | (have q2 := p2; go_at_call 67; refine (innerP _ J.r1 J.r2 _ p2 (by omega)).mono ?_; rintro e w3 ⟨x3,rfl,hx3,hk3,p3⟩; have hz3 := hk3.size; (try simp at hz3); have b3 := (b2.pb hk3 (by omega) hne : Bk w3 w.heap.size 30 (jobC J s)); have r3 := (r2.pb hk3 (by omega) hne2 : Bk w3 (w.heap.size + 1) 57 #[.int .i64 0,.int .i64 0,.int .i64 0]); have k3 := (k2.trans hk3 (by omega) : PB b w.heap.size w w3); have d0 := r3.at_ 0 _ rfl; have d1 := r3.at_ 1 _ rfl; have d2 := r3.at_ 2 _ rfl; have f0 := r3.free 0; have f1 := r3.free 1; have f2 := r3.free 2)
    | ((fail_if_success have q1 := p1); go_at_call 67; refine (innerP _ J.p1 J.p2 _ p0.drew (by omega)).mono ?_; rintro e w1 ⟨x1,rfl,hx1,hk1,p1⟩; have hz1 := hk1.size; (try simp at hz1); have b1 := (b0.drew.pb hk1 (by simp <;> omega) hne : Bk w1 w.heap.size 30 (jobC J s)); have r1 := (r0.drew.pb hk1 (by simp <;> omega) hne2 : Bk w1 (w.heap.size + 1) 57 #[.int .i64 0,.int .i64 0,.int .i64 0]); have k1 := (PB.trans (PB.below k0 (Below.refl _ _).drew (Nat.le_refl _)) hk1 (by simp <;> omega) : PB b w.heap.size w w1))
    | (have q1 := p1; (fail_if_success have q1 := p2); go_at_call 67; refine (innerP _ J.t1 J.t2 _ p1 (by omega)).mono ?_; rintro e w2 ⟨x2,rfl,hx2,hk2,p2⟩; have hz2 := hk2.size; (try simp at hz2); have b2 := (b1.pb hk2 (by omega) hne : Bk w2 w.heap.size 30 (jobC J s)); have r2 := (r1.pb hk2 (by omega) hne2 : Bk w2 (w.heap.size + 1) 57 #[.int .i64 0,.int .i64 0,.int .i64 0]); have k2 := (k1.trans hk2 (by omega) : PB b w.heap.size w w2)))
  go_wp2_with fail
  have hr := ((r3.put 0 (.int .i64 x1)).put 1 (.int .i64 x2)).put 2 (.int .i64 x3)
  refine bodyPost_ret (v := fdV ⟨x1,x2,x3⟩) (results_cell_row Try.results34 _ _ _ _ _ _ _ rfl hr Try.underlying57 rfl szFiled) rfl ⟨⟨x1,x2,x3⟩,rfl,⟨hx1,hx2,hx3⟩,?_,?_⟩
  · exact ((k3.setCell (p := ⟨w.heap.size + 1,0,none⟩) (by simp) _).setCell (p := ⟨w.heap.size + 1,1,none⟩) (by simp) _).setCell (p := ⟨w.heap.size + 1,2,none⟩) (by simp) _
  · exact ((p3.other (p := ⟨w.heap.size + 1,0,none⟩) hne2.symm _).other (p := ⟨w.heap.size + 1,1,none⟩) hne2.symm _).other (p := ⟨w.heap.size + 1,2,none⟩) hne2.symm _
set_option maxHeartbeats 2000000 in
set_option maxRecDepth 100000 in
theorem strikeTip_any (b : Nat) (J : Jb) (s : Value) (T : Tg) (x : Fd) (w : World) (hp : Pt w b) (hJ : J.In 200) (h1 : J.u1 ≤ J.u2) (h2 : J.x1 ≤ J.x2) (hT : T.has x) (hbx : (-300 ≤ x.p ∧ x.p ≤ 300) ∧ (-300 ≤ x.t ∧ x.t ≤ 300) ∧ (-300 ≤ x.r ∧ x.r ≤ 300)) :
    Calls Try.prog 38 #[.pointer (some ⟨b,0,none⟩),.agg (jobC J s),fdV x,.int .i64 1] w fun e w' => ∃ y : Fd,e = .returned (fdV y) ∧ (strk J T 1).has y ∧ PB b w.heap.size w w' ∧ Pt w' b := by
  have hlt := hp.lt
  obtain ⟨⟨xp1,xp2⟩,⟨xt1,xt2⟩,xr1,xr2⟩ := hbx
  have A1 := hJ.u1
  have A2 := hJ.u2
  have B1 := hJ.x1
  have B2 := hJ.x2
  clear hJ
  have b0 : Bk (((w.alloc (.cells (jobC J s) 30)).alloc (.cells #[.int .i64 x.p,.int .i64 x.t,.int .i64 x.r] 57)).alloc (.cells #[.int .i64 0,.int .i64 0,.int .i64 0] 57)) w.heap.size 30 (jobC J s) := ((Bk.new w _ _).alloc _).alloc _
  have t0 : Bk (((w.alloc (.cells (jobC J s) 30)).alloc (.cells #[.int .i64 x.p,.int .i64 x.t,.int .i64 x.r] 57)).alloc (.cells #[.int .i64 0,.int .i64 0,.int .i64 0] 57)) (w.heap.size + 1) 57 #[.int .i64 x.p,.int .i64 x.t,.int .i64 x.r] := (Bk.newAt _ _ _ _ (by simp)).alloc _
  have r0 : Bk (((w.alloc (.cells (jobC J s) 30)).alloc (.cells #[.int .i64 x.p,.int .i64 x.t,.int .i64 x.r] 57)).alloc (.cells #[.int .i64 0,.int .i64 0,.int .i64 0] 57)) (w.heap.size + 1 + 1) 57 #[.int .i64 0,.int .i64 0,.int .i64 0] := Bk.newAt _ _ _ _ (by simp)
  have p0 := ((hp.alloc (.cells (jobC J s) 30)).alloc (.cells #[.int .i64 x.p,.int .i64 x.t,.int .i64 x.r] 57)).alloc (.cells #[.int .i64 0,.int .i64 0,.int .i64 0] 57)
  have k0 : PB b w.heap.size w (((w.alloc (.cells (jobC J s) 30)).alloc (.cells #[.int .i64 x.p,.int .i64 x.t,.int .i64 x.r] 57)).alloc (.cells #[.int .i64 0,.int .i64 0,.int .i64 0] 57)) := (((PB.refl _ _ _).alloc (Nat.le_refl _) _).alloc (by simp) _).alloc (by simp; omega) _
  have hne : w.heap.size ≠ b := by omega
  have hne1 : w.heap.size + 1 ≠ b := by omega
  have hne2 : w.heap.size + 1 + 1 ≠ b := by omega
  go_enter Try.func38,Try.ntmps38
  go_wp2_with fail
  go_region_held3 (fun w' => w'.cell? ⟨w.heap.size,6,none⟩ = some (.int .i64 J.u1) ∧ w'.cell? ⟨w.heap.size,7,none⟩ = some (.int .i64 J.u2) ∧ w'.cell? ⟨w.heap.size,10,none⟩ = some (.int .i64 J.x1) ∧ w'.cell? ⟨w.heap.size,11,none⟩ = some (.int .i64 J.x2) ∧ w'.cell? ⟨w.heap.size + 1,0,none⟩ = some (.int .i64 x.p) ∧ w'.cell? ⟨w.heap.size + 1,1,none⟩ = some (.int .i64 x.t) ∧ w'.cell? ⟨w.heap.size + 1,2,none⟩ = some (.int .i64 x.r)) (first | exact ⟨b2.at_ 6 _ rfl,b2.at_ 7 _ rfl,b2.at_ 10 _ rfl,b2.at_ 11 _ rfl,t2.at_ 0 _ rfl,t2.at_ 1 _ rfl,t2.at_ 2 _ rfl⟩ | exact ⟨b1.at_ 6 _ rfl,b1.at_ 7 _ rfl,b1.at_ 10 _ rfl,b1.at_ 11 _ rfl,t1.at_ 0 _ rfl,t1.at_ 1 _ rfl,t1.at_ 2 _ rfl⟩ | exact ⟨b0.at_ 6 _ rfl,b0.at_ 7 _ rfl,b0.at_ 10 _ rfl,b0.at_ 11 _ rfl,t0.at_ 0 _ rfl,t0.at_ 1 _ rfl,t0.at_ 2 _ rfl⟩ | (simp (disch := omega) only [cell_other]; exact ⟨b2.at_ 6 _ rfl,b2.at_ 7 _ rfl,b2.at_ 10 _ rfl,b2.at_ 11 _ rfl,t2.at_ 0 _ rfl,t2.at_ 1 _ rfl,t2.at_ 2 _ rfl⟩) | go_keep)
    (first
    | ((fail_if_success have q9 := p1); go_at_call 67; refine (innerP _ J.u1 J.u2 _ p0.drew (by omega)).mono ?_; rintro e w1 ⟨x1,rfl,hx1,hk1,p1⟩; have hz1 := hk1.size; (try simp at hz1); have b1 := (b0.drew.pb hk1 (by simp <;> omega) hne : Bk w1 w.heap.size 30 (jobC J s)); have t1 := (t0.drew.pb hk1 (by simp <;> omega) hne1 : Bk w1 (w.heap.size + 1) 57 #[.int .i64 x.p,.int .i64 x.t,.int .i64 x.r]); have r1 := (r0.drew.pb hk1 (by simp <;> omega) hne2 : Bk w1 (w.heap.size + 1 + 1) 57 #[.int .i64 0,.int .i64 0,.int .i64 0]); have k1 := (PB.trans (PB.below k0 (Below.refl _ _).drew (Nat.le_refl _)) hk1 (by simp <;> omega) : PB b w.heap.size w w1))
    | (have q1 := p1; (fail_if_success have q9 := p2); go_at_call 67; refine (innerP _ J.x1 J.x2 _ p1 (by omega)).mono ?_; rintro e w2 ⟨x2,rfl,hx2,hk2,p2⟩; have hz2 := hk2.size; (try simp at hz2); have b2 := (b1.pb hk2 (by omega) hne : Bk w2 w.heap.size 30 (jobC J s)); have t2 := (t1.pb hk2 (by omega) hne1 : Bk w2 (w.heap.size + 1) 57 #[.int .i64 x.p,.int .i64 x.t,.int .i64 x.r]); have r2 := (r1.pb hk2 (by omega) hne2 : Bk w2 (w.heap.size + 1 + 1) 57 #[.int .i64 0,.int .i64 0,.int .i64 0]); have k2 := (k1.trans hk2 (by omega) : PB b w.heap.size w w2); have d0 := r2.at_ 0 _ rfl; have d1 := r2.at_ 1 _ rfl; have d2 := r2.at_ 2 _ rfl; have f0 := r2.free 0; have f1 := r2.free 1; have f2 := r2.free 2))
  go_wp2_with fail
  have e1 : IntKind.i64.wrap (x.p + x1) = x.p + x1 := IntWalk.i64_in _ (by omega)
  have e2 : IntKind.i64.wrap (x.t - x2) = x.t - x2 := IntWalk.i64_in _ (by omega)
  rw [e1,e2]
  have hr := ((r2.put 0 (.int .i64 (x.p + x1))).put 1 (.int .i64 (x.t - x2))).put 2 (.int .i64 (x.r))
  refine bodyPost_ret (v := fdV ⟨x.p + x1,x.t - x2,x.r⟩) (results_cell_row Try.results38 _ _ _ _ _ _ _ rfl hr Try.underlying57 rfl szFiled) rfl ⟨⟨x.p + x1,x.t - x2,x.r⟩,rfl,strk_tip hT hx1 hx2,?_,?_⟩
  · exact ((k2.setCell (p := ⟨w.heap.size + 1 + 1,0,none⟩) (by simp; omega) _).setCell (p := ⟨w.heap.size + 1 + 1,1,none⟩) (by simp; omega) _).setCell (p := ⟨w.heap.size + 1 + 1,2,none⟩) (by simp; omega) _
  · exact ((p2.other (p := ⟨w.heap.size + 1 + 1,0,none⟩) hne2.symm _).other (p := ⟨w.heap.size + 1 + 1,1,none⟩) hne2.symm _).other (p := ⟨w.heap.size + 1 + 1,2,none⟩) hne2.symm _
set_option maxHeartbeats 2000000 in
set_option maxRecDepth 100000 in
theorem strikeRoot_any (b : Nat) (J : Jb) (s : Value) (T : Tg) (x : Fd) (w : World) (hp : Pt w b) (hJ : J.In 200) (h1 : J.d1 ≤ J.d2) (h2 : J.y1 ≤ J.y2) (hT : T.has x) (hbx : (-300 ≤ x.p ∧ x.p ≤ 300) ∧ (-300 ≤ x.t ∧ x.t ≤ 300) ∧ (-300 ≤ x.r ∧ x.r ≤ 300)) :
    Calls Try.prog 38 #[.pointer (some ⟨b,0,none⟩),.agg (jobC J s),fdV x,.int .i64 2] w fun e w' => ∃ y : Fd,e = .returned (fdV y) ∧ (strk J T 2).has y ∧ PB b w.heap.size w w' ∧ Pt w' b := by
  have hlt := hp.lt
  obtain ⟨⟨xp1,xp2⟩,⟨xt1,xt2⟩,xr1,xr2⟩ := hbx
  have A1 := hJ.d1
  have A2 := hJ.d2
  have B1 := hJ.y1
  have B2 := hJ.y2
  clear hJ
  have b0 : Bk (((w.alloc (.cells (jobC J s) 30)).alloc (.cells #[.int .i64 x.p,.int .i64 x.t,.int .i64 x.r] 57)).alloc (.cells #[.int .i64 0,.int .i64 0,.int .i64 0] 57)) w.heap.size 30 (jobC J s) := ((Bk.new w _ _).alloc _).alloc _
  have t0 : Bk (((w.alloc (.cells (jobC J s) 30)).alloc (.cells #[.int .i64 x.p,.int .i64 x.t,.int .i64 x.r] 57)).alloc (.cells #[.int .i64 0,.int .i64 0,.int .i64 0] 57)) (w.heap.size + 1) 57 #[.int .i64 x.p,.int .i64 x.t,.int .i64 x.r] := (Bk.newAt _ _ _ _ (by simp)).alloc _
  have r0 : Bk (((w.alloc (.cells (jobC J s) 30)).alloc (.cells #[.int .i64 x.p,.int .i64 x.t,.int .i64 x.r] 57)).alloc (.cells #[.int .i64 0,.int .i64 0,.int .i64 0] 57)) (w.heap.size + 1 + 1) 57 #[.int .i64 0,.int .i64 0,.int .i64 0] := Bk.newAt _ _ _ _ (by simp)
  have p0 := ((hp.alloc (.cells (jobC J s) 30)).alloc (.cells #[.int .i64 x.p,.int .i64 x.t,.int .i64 x.r] 57)).alloc (.cells #[.int .i64 0,.int .i64 0,.int .i64 0] 57)
  have k0 : PB b w.heap.size w (((w.alloc (.cells (jobC J s) 30)).alloc (.cells #[.int .i64 x.p,.int .i64 x.t,.int .i64 x.r] 57)).alloc (.cells #[.int .i64 0,.int .i64 0,.int .i64 0] 57)) := (((PB.refl _ _ _).alloc (Nat.le_refl _) _).alloc (by simp) _).alloc (by simp; omega) _
  have hne : w.heap.size ≠ b := by omega
  have hne1 : w.heap.size + 1 ≠ b := by omega
  have hne2 : w.heap.size + 1 + 1 ≠ b := by omega
  go_enter Try.func38,Try.ntmps38
  go_wp2_with fail
  go_region_held3 (fun w' => w'.cell? ⟨w.heap.size,8,none⟩ = some (.int .i64 J.d1) ∧ w'.cell? ⟨w.heap.size,9,none⟩ = some (.int .i64 J.d2) ∧ w'.cell? ⟨w.heap.size,12,none⟩ = some (.int .i64 J.y1) ∧ w'.cell? ⟨w.heap.size,13,none⟩ = some (.int .i64 J.y2) ∧ w'.cell? ⟨w.heap.size + 1,0,none⟩ = some (.int .i64 x.p) ∧ w'.cell? ⟨w.heap.size + 1,1,none⟩ = some (.int .i64 x.t) ∧ w'.cell? ⟨w.heap.size + 1,2,none⟩ = some (.int .i64 x.r)) (first | exact ⟨b2.at_ 8 _ rfl,b2.at_ 9 _ rfl,b2.at_ 12 _ rfl,b2.at_ 13 _ rfl,t2.at_ 0 _ rfl,t2.at_ 1 _ rfl,t2.at_ 2 _ rfl⟩ | exact ⟨b1.at_ 8 _ rfl,b1.at_ 9 _ rfl,b1.at_ 12 _ rfl,b1.at_ 13 _ rfl,t1.at_ 0 _ rfl,t1.at_ 1 _ rfl,t1.at_ 2 _ rfl⟩ | exact ⟨b0.at_ 8 _ rfl,b0.at_ 9 _ rfl,b0.at_ 12 _ rfl,b0.at_ 13 _ rfl,t0.at_ 0 _ rfl,t0.at_ 1 _ rfl,t0.at_ 2 _ rfl⟩ | (simp (disch := omega) only [cell_other]; exact ⟨b2.at_ 8 _ rfl,b2.at_ 9 _ rfl,b2.at_ 12 _ rfl,b2.at_ 13 _ rfl,t2.at_ 0 _ rfl,t2.at_ 1 _ rfl,t2.at_ 2 _ rfl⟩) | go_keep)
    (first
    | ((fail_if_success have q9 := p1); go_at_call 67; refine (innerP _ J.d1 J.d2 _ p0.drew (by omega)).mono ?_; rintro e w1 ⟨x1,rfl,hx1,hk1,p1⟩; have hz1 := hk1.size; (try simp at hz1); have b1 := (b0.drew.pb hk1 (by simp <;> omega) hne : Bk w1 w.heap.size 30 (jobC J s)); have t1 := (t0.drew.pb hk1 (by simp <;> omega) hne1 : Bk w1 (w.heap.size + 1) 57 #[.int .i64 x.p,.int .i64 x.t,.int .i64 x.r]); have r1 := (r0.drew.pb hk1 (by simp <;> omega) hne2 : Bk w1 (w.heap.size + 1 + 1) 57 #[.int .i64 0,.int .i64 0,.int .i64 0]); have k1 := (PB.trans (PB.below k0 (Below.refl _ _).drew (Nat.le_refl _)) hk1 (by simp <;> omega) : PB b w.heap.size w w1))
    | (have q1 := p1; (fail_if_success have q9 := p2); go_at_call 67; refine (innerP _ J.y1 J.y2 _ p1 (by omega)).mono ?_; rintro e w2 ⟨x2,rfl,hx2,hk2,p2⟩; have hz2 := hk2.size; (try simp at hz2); have b2 := (b1.pb hk2 (by omega) hne : Bk w2 w.heap.size 30 (jobC J s)); have t2 := (t1.pb hk2 (by omega) hne1 : Bk w2 (w.heap.size + 1) 57 #[.int .i64 x.p,.int .i64 x.t,.int .i64 x.r]); have r2 := (r1.pb hk2 (by omega) hne2 : Bk w2 (w.heap.size + 1 + 1) 57 #[.int .i64 0,.int .i64 0,.int .i64 0]); have k2 := (k1.trans hk2 (by omega) : PB b w.heap.size w w2); have d0 := r2.at_ 0 _ rfl; have d1 := r2.at_ 1 _ rfl; have d2 := r2.at_ 2 _ rfl; have f0 := r2.free 0; have f1 := r2.free 1; have f2 := r2.free 2))
  go_wp2_with fail
  have e1 : IntKind.i64.wrap (x.p - x1) = x.p - x1 := IntWalk.i64_in _ (by omega)
  have e2 : IntKind.i64.wrap (x.r - x2) = x.r - x2 := IntWalk.i64_in _ (by omega)
  rw [e1,e2]
  have hr := ((r2.put 0 (.int .i64 (x.p - x1))).put 1 (.int .i64 (x.t))).put 2 (.int .i64 (x.r - x2))
  refine bodyPost_ret (v := fdV ⟨x.p - x1,x.t,x.r - x2⟩) (results_cell_row Try.results38 _ _ _ _ _ _ _ rfl hr Try.underlying57 rfl szFiled) rfl ⟨⟨x.p - x1,x.t,x.r - x2⟩,rfl,strk_root hT hx1 hx2,?_,?_⟩
  · exact ((k2.setCell (p := ⟨w.heap.size + 1 + 1,0,none⟩) (by simp; omega) _).setCell (p := ⟨w.heap.size + 1 + 1,1,none⟩) (by simp; omega) _).setCell (p := ⟨w.heap.size + 1 + 1,2,none⟩) (by simp; omega) _
  · exact ((p2.other (p := ⟨w.heap.size + 1 + 1,0,none⟩) hne2.symm _).other (p := ⟨w.heap.size + 1 + 1,1,none⟩) hne2.symm _).other (p := ⟨w.heap.size + 1 + 1,2,none⟩) hne2.symm _
end Go.Proofs.Ytadmcafbffjjbaa
