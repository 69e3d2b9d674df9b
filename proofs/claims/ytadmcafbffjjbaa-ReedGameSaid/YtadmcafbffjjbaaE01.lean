/- Part 1 of the proof: Stroke, Window, Sh0, Memo, Read, Spoil, Pass, After, Best, More, Filed, AfterB, Via. -/
import Derived.Deep.RegionHeld3
import Derived.Laws.ResultCell
import Derived.Maps.Own
import Derived.Maps.AppendAt
import Derived.DeepKeys4
import Derived.RangeFuncNested
import Derived.RangeFuncBound
import Derived.RangeFuncCalls
import Derived.RangeFuncLeaves
import Derived.Shelf.Abstract
import Derived.Shelf.RegionOpen
import Derived.WalkKit
import Derived.OwnWalkIn
import Derived.TacticsInMore
import Derived.LoopNIn
import Derived.LoopIn
import Derived.Deep.WholeRow
import Derived.Test.YtadmcafbffjjbaaE00
namespace Go.Proofs.Ytadmcafbffjjbaa
set_option linter.all false
open Go.RowKit

def Tg.In (t : Tg) (n : Int) : Prop := -n ≤ t.p1 ∧ t.p1 ≤ n ∧ -n ≤ t.p2 ∧ t.p2 ≤ n ∧ -n ≤ t.t1 ∧ t.t1 ≤ n ∧ -n ≤ t.t2 ∧ t.t2 ≤ n ∧ -n ≤ t.r1 ∧ t.r1 ≤ n ∧ -n ≤ t.r2 ∧ t.r2 ≤ n

theorem three_new (w : World) (A B C : Array Value) (t u v : TypeId) : Bk (((w.alloc (.cells A t)).alloc (.cells B u)).alloc (.cells C v)) w.heap.size t A ∧ Bk (((w.alloc (.cells A t)).alloc (.cells B u)).alloc (.cells C v)) (w.heap.size + 1) u B ∧
    Bk (((w.alloc (.cells A t)).alloc (.cells B u)).alloc (.cells C v)) (w.heap.size + 2) v C := by
  have h1 := Bk.new (w.alloc (.cells A t)) u B
  have h2 := Bk.new ((w.alloc (.cells A t)).alloc (.cells B u)) v C
  simp only [World.size_alloc] at h1 h2
  exact ⟨((Bk.new w t A).alloc _).alloc _,h1.alloc _,h2⟩

set_option maxHeartbeats 1000000 in
set_option maxRecDepth 100000 in
theorem stroked_tip (J : Jb) (s : Value) (w : World) (h : J.In 1000) :
    Calls Try.prog 89 #[.agg (jobC J s),.int .i64 1] w fun e w' => e = .returned (.agg (tonC (strk J J.tg 1))) ∧ Below w.heap.size w w' := by
  obtain ⟨⟨p1,p1'⟩,⟨p2,p2'⟩,⟨t1,t1'⟩,⟨t2,t2'⟩,⟨r1,r1'⟩,⟨r2,r2'⟩,⟨u1,u1'⟩,⟨u2,u2'⟩,⟨d1,d1'⟩,⟨d2,d2'⟩,⟨x1,x1'⟩,⟨x2,x2'⟩,⟨y1,y1'⟩,⟨y2,y2'⟩,_,_,_,_,_⟩ := h
  obtain ⟨b0,b1,b2⟩ := three_new w (jobC J s) #[.int .i64 0,.int .i64 0,.int .i64 0,.int .i64 0,.int .i64 0,.int .i64 0] #[.int .i64 J.p1,.int .i64 J.p2,.int .i64 J.t1,.int .i64 J.t2,.int .i64 J.r1,.int .i64 J.r2] 104 25 25
  go_enter Try.func89,Try.ntmps89
  go_wp2_with fail
  refine (sum_any _ _ _ _ _ (by omega)).mono ?_
  rintro e w1 ⟨rfl,hb⟩
  have hz := hb.size
  simp only [World.size_alloc] at hz
  have k0 := b0.below hb (by simp; omega)
  have k1 := b1.below hb (by simp)
  have k2 := b2.below hb (by simp)
  have hB1 : Below w.heap.size w w1 := ((((Below.refl _ _).alloc (Nat.le_refl _) _).alloc (by simp) _).alloc (by simp; omega) _).trans (hb.mono (by simp; omega))
  clear b0 b1 b2 hb
  have l0 := k2.at_ 0 _ rfl
  have l1 := k2.at_ 1 _ rfl
  have l2 := k2.at_ 2 _ rfl
  have l3 := k2.at_ 3 _ rfl
  have m0 := k2.free 0
  have m1 := k2.free 1
  have j10 := k0.at_ 10 _ rfl
  have j11 := k0.at_ 11 _ rfl
  go_wp2_with fail
  refine (difference_any _ _ _ _ _ (by omega)).mono ?_
  rintro e w2 ⟨rfl,hb⟩
  have hz2 := hb.size
  simp only [World.size_setCell] at hz2
  have q1 := ((k1.other (p := ⟨w.heap.size + 2,0,none⟩) (by simp) _).other (p := ⟨w.heap.size + 2,1,none⟩) (by simp) _).below hb (by simp; omega)
  have q2 := ((k2.put 0 _).put 1 _).below hb (by simp; omega)
  have hB2 : Below w.heap.size w w2 := ((hB1.setCell (p := ⟨w.heap.size + 2,0,none⟩) (by simp) _).setCell (p := ⟨w.heap.size + 2,1,none⟩) (by simp) _).trans (hb.mono (by simp; omega))
  clear k0 k1 k2 l0 l1 l2 l3 m0 m1 j10 j11 hb hB1
  have l0 := q2.at_ 0 _ rfl
  have l1 := q2.at_ 1 _ rfl
  have l2 := q2.at_ 2 _ rfl
  have l3 := q2.at_ 3 _ rfl
  have l4 := q2.at_ 4 _ rfl
  have l5 := q2.at_ 5 _ rfl
  have m2 := q2.free 2
  have m3 := q2.free 3
  have n0 := q1.at_ 0 _ rfl
  have n1 := q1.at_ 1 _ rfl
  have n2 := q1.at_ 2 _ rfl
  have n3 := q1.at_ 3 _ rfl
  have n4 := q1.at_ 4 _ rfl
  have n5 := q1.at_ 5 _ rfl
  have f0 := q1.free 0
  have f1 := q1.free 1
  have f2 := q1.free 2
  have f3 := q1.free 3
  have f4 := q1.free 4
  have f5 := q1.free 5
  go_wp2
  refine bodyPost_ret (v := .agg #[.int .i64 (J.p1 + J.u1),.int .i64 (J.p2 + J.u2),.int .i64 (J.t1 - J.x2),.int .i64 (J.t2 - J.x1),.int .i64 J.r1,.int .i64 J.r2]) (by simp [results,Try.results89,go_sem,n0,n1,n2,n3,n4,n5]) rfl ⟨by simp [strk,Jb.tg],?_⟩
  iterate 8 (refine Below.setCell ?_ (by first | (simp; done) | (simp; omega)) _)
  exact hB2

set_option maxHeartbeats 1000000 in
set_option maxRecDepth 100000 in
theorem stroked_root (J : Jb) (s : Value) (w : World) (h : J.In 1000) :
    Calls Try.prog 89 #[.agg (jobC J s),.int .i64 2] w fun e w' => e = .returned (.agg (tonC (strk J J.tg 2))) ∧ Below w.heap.size w w' := by
  obtain ⟨⟨p1,p1'⟩,⟨p2,p2'⟩,⟨t1,t1'⟩,⟨t2,t2'⟩,⟨r1,r1'⟩,⟨r2,r2'⟩,⟨u1,u1'⟩,⟨u2,u2'⟩,⟨d1,d1'⟩,⟨d2,d2'⟩,⟨x1,x1'⟩,⟨x2,x2'⟩,⟨y1,y1'⟩,⟨y2,y2'⟩,_,_,_,_,_⟩ := h
  obtain ⟨b0,b1,b2⟩ := three_new w (jobC J s) #[.int .i64 0,.int .i64 0,.int .i64 0,.int .i64 0,.int .i64 0,.int .i64 0] #[.int .i64 J.p1,.int .i64 J.p2,.int .i64 J.t1,.int .i64 J.t2,.int .i64 J.r1,.int .i64 J.r2] 104 25 25
  go_enter Try.func89,Try.ntmps89
  go_wp2_with fail
  refine (difference_any _ _ _ _ _ (by omega)).mono ?_
  rintro e w1 ⟨rfl,hb⟩
  have hz := hb.size
  simp only [World.size_alloc] at hz
  have k0 := b0.below hb (by simp; omega)
  have k1 := b1.below hb (by simp)
  have k2 := b2.below hb (by simp)
  have hB1 : Below w.heap.size w w1 := ((((Below.refl _ _).alloc (Nat.le_refl _) _).alloc (by simp) _).alloc (by simp; omega) _).trans (hb.mono (by simp; omega))
  clear b0 b1 b2 hb
  have l0 := k2.at_ 0 _ rfl
  have l1 := k2.at_ 1 _ rfl
  have l2 := k2.at_ 4 _ rfl
  have l3 := k2.at_ 5 _ rfl
  have m0 := k2.free 0
  have m1 := k2.free 1
  have j10 := k0.at_ 12 _ rfl
  have j11 := k0.at_ 13 _ rfl
  go_wp2_with fail
  refine (difference_any _ _ _ _ _ (by omega)).mono ?_
  rintro e w2 ⟨rfl,hb⟩
  have hz2 := hb.size
  simp only [World.size_setCell] at hz2
  have q1 := ((k1.other (p := ⟨w.heap.size + 2,0,none⟩) (by simp) _).other (p := ⟨w.heap.size + 2,1,none⟩) (by simp) _).below hb (by simp; omega)
  have q2 := ((k2.put 0 _).put 1 _).below hb (by simp; omega)
  have hB2 : Below w.heap.size w w2 := ((hB1.setCell (p := ⟨w.heap.size + 2,0,none⟩) (by simp) _).setCell (p := ⟨w.heap.size + 2,1,none⟩) (by simp) _).trans (hb.mono (by simp; omega))
  clear k0 k1 k2 l0 l1 l2 l3 m0 m1 j10 j11 hb hB1
  have l0 := q2.at_ 0 _ rfl
  have l1 := q2.at_ 1 _ rfl
  have l2 := q2.at_ 2 _ rfl
  have l3 := q2.at_ 3 _ rfl
  have l4 := q2.at_ 4 _ rfl
  have l5 := q2.at_ 5 _ rfl
  have m2 := q2.free 4
  have m3 := q2.free 5
  have n0 := q1.at_ 0 _ rfl
  have n1 := q1.at_ 1 _ rfl
  have n2 := q1.at_ 2 _ rfl
  have n3 := q1.at_ 3 _ rfl
  have n4 := q1.at_ 4 _ rfl
  have n5 := q1.at_ 5 _ rfl
  have f0 := q1.free 0
  have f1 := q1.free 1
  have f2 := q1.free 2
  have f3 := q1.free 3
  have f4 := q1.free 4
  have f5 := q1.free 5
  go_wp2
  refine bodyPost_ret (v := .agg #[.int .i64 (J.p1 - J.d2),.int .i64 (J.p2 - J.d1),.int .i64 J.t1,.int .i64 J.t2,.int .i64 (J.r1 - J.y2),.int .i64 (J.r2 - J.y1)]) (by simp [results,Try.results89,go_sem,n0,n1,n2,n3,n4,n5]) rfl ⟨by simp [strk,Jb.tg],?_⟩
  iterate 8 (refine Below.setCell ?_ (by first | (simp; done) | (simp; omega)) _)
  exact hB2

theorem strk_in (J : Jb) (t : Tg) (s n : Int) (h : t.In n) (hJ : J.In 1000) : (strk J t s).In (n + 12) := by
  obtain ⟨h1,h2,h3,h4,h5,h6,h7,h8,h9,h10,h11,h12⟩ := h
  have := hJ.u1; have := hJ.u2; have := hJ.d1; have := hJ.d2; have := hJ.x1; have := hJ.x2; have := hJ.y1; have := hJ.y2
  unfold strk
  by_cases e1 : s = 1
  · rw [if_pos e1]; simp only [Tg.In]; omega
  · rw [if_neg e1]
    by_cases e2 : s = 2
    · rw [if_pos e2]; simp only [Tg.In]; omega
    · rw [if_neg e2]; simp only [Tg.In]; omega
theorem Jb.In.tg {J : Jb} {n : Int} (h : J.In n) : J.tg.In n := by
  have := h.p1; have := h.p2; have := h.t1; have := h.t2; have := h.r1; have := h.r2
  simp only [Tg.In,Jb.tg]; omega
theorem Jb.In.setTg {J : Jb} {n m : Int} {t : Tg} (h : J.In n) (ht : t.In m) : (J.setTg t).In m := by
  obtain ⟨h1,h2,h3,h4,h5,h6,h7,h8,h9,h10,h11,h12⟩ := ht
  exact ⟨⟨h1,h2⟩,⟨h3,h4⟩,⟨h5,h6⟩,⟨h7,h8⟩,⟨h9,h10⟩,⟨h11,h12⟩,h.u1,h.u2,h.d1,h.d2,h.x1,h.x2,h.y1,h.y2,h.le,h.wi,h.me,h.sh,h.len⟩
theorem Tg.In.mono {t : Tg} {n m : Int} (h : t.In n) (hm : n ≤ m) : t.In m := by
  simp only [Tg.In] at h ⊢; omega
theorem Jb.In.mono {J : Jb} {n m : Int} (h : J.In n) (hm : n ≤ m) : J.In m := h.setTg (h.tg.mono hm)

theorem stroked_any (J : Jb) (s : Value) (k : Int) (hk : k = 1 ∨ k = 2) (w : World) (h : J.In 1000) :
    Calls Try.prog 89 #[.agg (jobC J s),.int .i64 k] w fun e w' => e = .returned (.agg (tonC (strk J J.tg k))) ∧ Below w.heap.size w w' := by
  rcases hk with rfl | rfl
  · exact stroked_tip J s w h
  · exact stroked_root J s w h

def AfterEnd (J : Jb) (l : List Int) (s : Value) (w : World) (e : Ending) (w' : World) : Prop :=
  e = .returned (.agg (jobC (J.setTg (afterS J J.tg l)) s)) ∧ Below w.heap.size w w'
end Go.Proofs.Ytadmcafbffjjbaa
namespace Go.Proofs.Ytadmcafbffjjbaa
set_option linter.all false
open Go.RowKit

def windowI (J : Jb) : R2 × Int :=
  if J.check ≠ 0 then ((0,0),J.check) else if (win J.wi J.sh).2 < (win J.wi J.sh).1 then ((0,0),11) else (win J.wi J.sh,0)

theorem rngE_ok {a b lo hi : Int} (h : rngE a b lo hi = 0) : lo ≤ a ∧ a ≤ hi ∧ lo ≤ b ∧ b ≤ hi ∧ a ≤ b := by
  unfold rngE at h
  by_cases h1 : a < lo ∨ hi < a
  · rw [if_pos h1] at h; omega
  · rw [if_neg h1] at h
    by_cases h2 : b < lo ∨ hi < b
    · rw [if_pos h2] at h; omega
    · rw [if_neg h2] at h
      by_cases h3 : b < a
      · rw [if_pos h3] at h; omega
      · omega
theorem numE_ok {a lo hi : Int} (h : numE a lo hi = 0) : lo ≤ a ∧ a ≤ hi := by
  unfold numE at h
  by_cases h1 : a < lo ∨ hi < a
  · rw [if_pos h1] at h; omega
  · omega
theorem firstE_ok : ∀ (l : List Int),firstE l = 0 → ∀ x ∈ l,x = 0
  | [],_,x,h => by simp at h
  | e :: l,h,x,hx => by
    unfold firstE at h
    by_cases h0 : e = 0
    · rw [if_pos h0] at h
      rcases List.mem_cons.1 hx with rfl | hx
      · exact h0
      · exact firstE_ok l h x hx
    · rw [if_neg h0] at h; exact absurd h h0
theorem shE_ok : ∀ (l : List R2),shE l = 0 → ∀ s ∈ l,rngE s.1 s.2 (-60) 60 = 0
  | [],_,s,h => by simp at h
  | e :: l,h,s,hs => by
    unfold shE at h
    by_cases h0 : rngE e.1 e.2 (-60) 60 = 0
    · rw [if_pos h0] at h
      rcases List.mem_cons.1 hs with rfl | hs
      · exact h0
      · exact shE_ok l h s hs
    · rw [if_neg h0] at h; exact absurd h h0

structure Jb.Ok (J : Jb) : Prop where
  inn : J.In 100
  p : J.p1 ≤ J.p2
  t : J.t1 ≤ J.t2
  r : J.r1 ≤ J.r2
  u : J.u1 ≤ J.u2
  d : J.d1 ≤ J.d2
  x : J.x1 ≤ J.x2
  y : J.y1 ≤ J.y2
  s : ∀ s ∈ J.sh,s.1 ≤ s.2
theorem check_ok {J : Jb} (h : J.check = 0) : J.Ok := by
  unfold Jb.check at h
  by_cases h0 : J.head = 0
  · rw [if_pos h0] at h
    by_cases h1 : 4 < J.sh.length
    · rw [if_pos h1] at h; omega
    · rw [if_neg h1] at h
      by_cases h2 : shE J.sh = 0
      · rw [if_pos h2] at h
        have a := firstE_ok _ h0
        have b := firstE_ok _ h
        have s := shE_ok _ h2
        have a1 := rngE_ok (a _ (by simp : rngE J.p1 J.p2 (-60) 60 ∈ _))
        have a2 := rngE_ok (a _ (by simp : rngE J.t1 J.t2 0 100 ∈ _))
        have a3 := rngE_ok (a _ (by simp : rngE J.r1 J.r2 0 100 ∈ _))
        have a4 := rngE_ok (a _ (by simp : rngE J.u1 J.u2 0 12 ∈ _))
        have a5 := rngE_ok (a _ (by simp : rngE J.d1 J.d2 0 12 ∈ _))
        have a6 := rngE_ok (a _ (by simp : rngE J.x1 J.x2 0 12 ∈ _))
        have a7 := rngE_ok (a _ (by simp : rngE J.y1 J.y2 0 12 ∈ _))
        have a8 := numE_ok (a _ (by simp : numE J.le 0 100 ∈ _))
        have b1 := numE_ok (b _ (by simp : numE J.wi 0 60 ∈ _))
        have b2 := numE_ok (b _ (by simp : numE J.me 0 6 ∈ _))
        refine ⟨⟨by omega,by omega,by omega,by omega,by omega,by omega,by omega,by omega,by omega,by omega,by omega,by omega,by omega,by omega,by omega,by omega,by omega,fun q hq => ?_,by omega⟩,by omega,by omega,by omega,by omega,by omega,by omega,by omega,fun q hq => (rngE_ok (s q hq)).2.2.2.2⟩
        have := rngE_ok (s q hq)
        omega
      · rw [if_neg h2] at h; exact absurd h h2
  · rw [if_neg h0] at h; exact absurd h h0

def WindowEnd (J : Jb) (w : World) (e : Ending) (w' : World) : Prop :=
  e = .returned (.tuple #[.agg #[.int .i64 (windowI J).1.1,.int .i64 (windowI J).1.2],.int .i64 (windowI J).2]) ∧ Below w.heap.size w w'

theorem results_row_tmp {P : Program} {fn : Func} {p u : Tmp} {ty : TypeId} {fs : Array Field} (h : fn.results = #[.cell p ty,.tmp u]) (tmps : Array Value) (w : World) (g : Nat) (t : TypeId) (cs : Array Value) (v : Value)
    (hp : tmps.getD p undef = .pointer (some ⟨g,0,none⟩)) (hv : tmps.getD u undef = v) (hg : Bk w g t cs)
    (hu : P.underlying ty = some (.struct fs)) (hi : (P.info? ty).map (·.size) = some cs.size) :
    (results fn tmps).run P w = .ok (.tuple #[.agg cs,v]) w := by
  have hp' : tmps[p]?.getD undef = .pointer (some ⟨g,0,none⟩) := by simpa using hp
  have hv' : tmps[u]?.getD undef = v := by simpa using hv
  simp [results,h,hp',hv',asAddr,run_loadVar_row w g t ty cs (0,0) _ hg hu rfl hi]

set_option maxHeartbeats 1000000 in
set_option maxRecDepth 100000 in
theorem window_any (J : Jb) (a : Option Addr) (n c : Nat) (w : World) (hn : n = J.sh.length) (hm : n ≤ 9223372036854775807) (h : Rg w w.heap.size a J.sh) :
    Calls Try.prog 31 #[.agg (jobC J (.slice a n c))] w (WindowEnd J w) := by
  have Hn : Hid (n = J.sh.length) := hn
  have Hh : Hid (Rg w w.heap.size a J.sh) := h
  clear hn h
  have b0 : Bk ((w.alloc (.cells (jobC J (.slice a n c)) 30)).alloc (.cells #[.int .i64 0,.int .i64 0] 23)) w.heap.size 30 (jobC J (.slice a n c)) := (Bk.new w _ _).alloc _
  have b1 : Bk ((w.alloc (.cells (jobC J (.slice a n c)) 30)).alloc (.cells #[.int .i64 0,.int .i64 0] 23)) (w.heap.size + 1) 23 #[.int .i64 0,.int .i64 0] := Bk.newAt _ _ _ _ (by simp)
  have hW : Below w.heap.size w ((w.alloc (.cells (jobC J (.slice a n c)) 30)).alloc (.cells #[.int .i64 0,.int .i64 0] 23)) := ((Below.refl _ _).alloc (Nat.le_refl _) _).alloc (by simp) _
  by_cases hc : J.check = 0
  · have hok := check_ok hc
    have HJ := hidMk (hok.inn.mono (by decide : (100 : Int) ≤ 1000))
    have hcb : (J.check != 0) = false := by simp [hc]
    have Hc := hidMk hc
    clear hc hok
    obtain ⟨v,hv⟩ : ∃ v : Bool,decide ((win J.wi J.sh).2 < (win J.wi J.sh).1) = v := ⟨_,rfl⟩
    have He : Hid (windowI J = if v = true then ((0,0),11) else (win J.wi J.sh,0)) := by
      show windowI J = _
      unfold windowI
      rw [if_neg (by simpa using Hc.out),← hv]
      simp only [decide_eq_true_eq]
    cases v
    · go_enter Try.func31,Try.ntmps31
      go_wp2_with (refine wpList_load_row rfl 30 _ rfl w.heap.size rfl _ (jobC J (.slice a n c)) _ _ b0 Try.underlying30 rfl szJob ?_)
      refine (check_any J a n c _ Hn.out hm (Hh.out.up hW)).mono ?_
      rintro e w1 ⟨rfl,hb1⟩
      have hz1 := hb1.size
      simp only [World.size_alloc] at hz1
      have k0 := b0.below hb1 (by simp; omega)
      have k1 := b1.below hb1 (by simp)
      have hB1 : Below w.heap.size w w1 := hW.trans (hb1.mono (by simp; omega))
      clear hb1 b0 b1 hW
      go_wp2_with (refine wpList_load_row rfl 30 _ rfl w.heap.size rfl _ (jobC J (.slice a n c)) _ _ k0 Try.underlying30 rfl szJob ?_)
      refine (windows_any J a n c _ HJ.out Hn.out (Hh.out.up hB1)).mono ?_
      rintro e w2 ⟨rfl,hb2⟩
      have hz2 := hb2.size
      have q1 := k1.below hb2 (by omega)
      have hB2 : Below w.heap.size w w2 := hB1.trans (hb2.mono (by omega))
      clear hb2 k0 k1 hB1
      have c0 := q1.at_ 0 _ rfl
      have c1 := q1.at_ 1 _ rfl
      have f0 := q1.free 0
      have f1 := q1.free 1
      have g0 : w.heap.size + 1 < w2.heap.size := by omega
      have g1 : w.heap.size + 1 < w2.heap.size + 1 := by omega
      have g2 : w.heap.size + 1 < w2.heap.size + 1 + 1 := by omega
      go_wp2_with (go_at_call 66; refine (empty_any _ _ _).mono ?_; rintro e w3 ⟨rfl,rfl⟩)
      refine bodyPost_ret (results_row_tmp Try.results31 _ _ _ _ _ _ rfl rfl (((((q1.put2 _ _).alloc _).alloc _).alloc _)) Try.underlying23 szRange) rfl ⟨by rw [He.out]; rfl,?_⟩
      exact ((((hB2.setCell (by simp) _).setCell (by simp) _).alloc (by simp; omega) _).alloc (by simp; omega) _).alloc (by simp; omega) _
    · go_enter Try.func31,Try.ntmps31
      go_wp2_with (refine wpList_load_row rfl 30 _ rfl w.heap.size rfl _ (jobC J (.slice a n c)) _ _ b0 Try.underlying30 rfl szJob ?_)
      refine (check_any J a n c _ Hn.out hm (Hh.out.up hW)).mono ?_
      rintro e w1 ⟨rfl,hb1⟩
      have hz1 := hb1.size
      simp only [World.size_alloc] at hz1
      have k0 := b0.below hb1 (by simp; omega)
      have k1 := b1.below hb1 (by simp)
      have hB1 : Below w.heap.size w w1 := hW.trans (hb1.mono (by simp; omega))
      clear hb1 b0 b1 hW
      go_wp2_with (refine wpList_load_row rfl 30 _ rfl w.heap.size rfl _ (jobC J (.slice a n c)) _ _ k0 Try.underlying30 rfl szJob ?_)
      refine (windows_any J a n c _ HJ.out Hn.out (Hh.out.up hB1)).mono ?_
      rintro e w2 ⟨rfl,hb2⟩
      have hz2 := hb2.size
      have q1 := k1.below hb2 (by omega)
      have hB2 : Below w.heap.size w w2 := hB1.trans (hb2.mono (by omega))
      clear hb2 k0 k1 hB1
      have c0 := q1.at_ 0 _ rfl
      have c1 := q1.at_ 1 _ rfl
      have f0 := q1.free 0
      have f1 := q1.free 1
      have g0 : w.heap.size + 1 < w2.heap.size := by omega
      have g1 : w.heap.size + 1 < w2.heap.size + 1 := by omega
      have g2 : w.heap.size + 1 < w2.heap.size + 1 + 1 := by omega
      go_wp2_with (go_at_call 66; refine (empty_any _ _ _).mono ?_; rintro e w3 ⟨rfl,rfl⟩)
      refine bodyPost_ret (results_row_tmp Try.results31 _ _ _ _ _ _ rfl rfl (((((q1.put2 _ _).alloc _).alloc _).alloc _)) Try.underlying23 szRange) rfl ⟨by rw [He.out]; rfl,?_⟩
      exact ((((hB2.setCell (by simp) _).setCell (by simp) _).alloc (by simp; omega) _).alloc (by simp; omega) _).alloc (by simp; omega) _
  · have hcb : (J.check != 0) = true := by simpa using hc
    have He : Hid (windowI J = ((0,0),J.check)) := by
      show windowI J = _
      unfold windowI
      rw [if_pos hc]
    clear hc
    go_enter Try.func31,Try.ntmps31
    go_wp2_with (refine wpList_load_row rfl 30 _ rfl w.heap.size rfl _ (jobC J (.slice a n c)) _ _ b0 Try.underlying30 rfl szJob ?_)
    refine (check_any J a n c _ Hn.out hm (Hh.out.up hW)).mono ?_
    rintro e w1 ⟨rfl,hb1⟩
    have hz1 := hb1.size
    simp only [World.size_alloc] at hz1
    have k1 := b1.below hb1 (by simp)
    have hB1 : Below w.heap.size w w1 := hW.trans (hb1.mono (by simp; omega))
    clear hb1 b0 b1 hW
    have c0 := k1.at_ 0 _ rfl
    have c1 := k1.at_ 1 _ rfl
    have f0 := k1.free 0
    have f1 := k1.free 1
    go_wp2
    refine bodyPost_ret (results_row_tmp Try.results31 _ _ _ _ _ _ rfl rfl (k1.put2 _ _) Try.underlying23 szRange) rfl ⟨by rw [He.out]; rfl,?_⟩
    exact (hB1.setCell (by simp) _).setCell (by simp) _
end Go.Proofs.Ytadmcafbffjjbaa
namespace Go.Proofs.Ytadmcafbffjjbaa
set_option linter.all false
open Go.RowKit
def TunOK : Prop := ∀ w : World,Calls Try.prog 8 #[] w fun e w' => e = .returned (.bool true) ∧ Below w.heap.size w w'
end Go.Proofs.Ytadmcafbffjjbaa
namespace Go.Proofs.Ytadmcafbffjjbaa
set_option linter.all false
open Go.RowKit Go.ChangeShapes Go.WideShapes Go.MapKept
open Go.WideElems (Fit rd rg pl rd_key rd_val rg_of)

def knownC (t : Tg) (k : Nat) : Array Value := #[.int .i64 t.p1,.int .i64 t.p2,.int .i64 t.t1,.int .i64 t.t2,.int .i64 t.r1,.int .i64 t.r2,.int .i64 (k : Int)]
theorem knownC_inj {t u : Tg} {k m : Nat} (h : Value.agg (knownC t k) = .agg (knownC u m)) : t = u ∧ k = m := by
  unfold knownC at h
  simp only [Value.agg.injEq,Array.mk.injEq,List.cons.injEq,Value.int.injEq,true_and,and_true] at h
  obtain ⟨h1,h2,h3,h4,h5,h6,h7⟩ := h
  refine ⟨?_,by omega⟩
  cases t; cases u
  simp_all

theorem laidOut : laidOutB Try.prog = true := by kernel_rfl
set_option maxRecDepth 100000 in
theorem rowK : (91 : TypeId) < Try.prog.types.size := of_decide_eq_true (by kernel_rfl)
set_option maxRecDepth 100000 in
theorem wideK : (match Try.prog.underlying 91 with | some (.array _ _) | some (.struct _) => true | _ => false) = true := by rw [Try.underlying91]
set_option maxRecDepth 100000 in
theorem keyedK : Maps.Keyed Try.prog 91 := Maps.Keyed.of_law (deep_law_laid laidOut (m := 5) (by omega) rowK (by kernel_rfl) wideK)
set_option maxRecDepth 100000 in
theorem keyTypeK : Try.prog.keyType 91 = true := by kernel_rfl
theorem cellsK : Try.prog.cellsOf 91 = 7 := by kernel_rfl
theorem cellsT : Try.prog.cellsOf 25 = 6 := by kernel_rfl
theorem cellsR : Try.prog.cellsOf 23 = 2 := by kernel_rfl
theorem cellsI : Try.prog.cellsOf 3 = 1 := by kernel_rfl
set_option maxRecDepth 100000 in
theorem typesK : ∃ m,Try.prog.types.size + 1 = m + 4 := ⟨Try.prog.types.size - 3,by have : 4 ≤ Try.prog.types.size := of_decide_eq_true (by kernel_rfl); omega⟩

theorem wf64 {n : Int} (h : -100000 ≤ n ∧ n ≤ 100000) : (Lit.int .i64 n).wf = true := WalkArith.wf_i64 (by omega)

theorem lits_int (m : Nat) {a : Int} (ha : (Lit.int .i64 a).wf = true) : Try.prog.keyLits (m + 1) 3 [.int .i64 a] = some [.int .i64 a] := by
  unfold Program.keyLits
  simp only [Try.underlying3]
  rw [if_pos ⟨trivial,ha⟩]
theorem lits_range (m : Nat) {a b : Int} (ha : (Lit.int .i64 a).wf = true) (hb : (Lit.int .i64 b).wf = true) : Try.prog.keyLits (m + 1 + 1) 23 [.int .i64 a,.int .i64 b] = some [.int .i64 a,.int .i64 b] := by
  unfold Program.keyLits
  simp only [Try.underlying23]
  rw [if_pos ⟨by rw [cellsR]; rfl,by kernel_rfl⟩]
  simp [cellsI,lits_int,ha,hb]
theorem lits_tongue (m : Nat) {a b c d e f : Int} (ha : (Lit.int .i64 a).wf = true) (hb : (Lit.int .i64 b).wf = true) (hc : (Lit.int .i64 c).wf = true) (hd : (Lit.int .i64 d).wf = true) (he : (Lit.int .i64 e).wf = true) (hf : (Lit.int .i64 f).wf = true) :
    Try.prog.keyLits (m + 1 + 1 + 1) 25 [.int .i64 a,.int .i64 b,.int .i64 c,.int .i64 d,.int .i64 e,.int .i64 f] = some [.int .i64 a,.int .i64 b,.int .i64 c,.int .i64 d,.int .i64 e,.int .i64 f] := by
  unfold Program.keyLits
  simp only [Try.underlying25]
  rw [if_pos ⟨by rw [cellsT]; rfl,by kernel_rfl⟩]
  simp [cellsR,lits_range,ha,hb,hc,hd,he,hf]

set_option maxRecDepth 100000 in
theorem key_ok (t : Tg) (k : Nat) (ht : t.p1.natAbs ≤ 100000 ∧ t.p2.natAbs ≤ 100000 ∧ t.t1.natAbs ≤ 100000 ∧ t.t2.natAbs ≤ 100000 ∧ t.r1.natAbs ≤ 100000 ∧ t.r2.natAbs ≤ 100000) (hk : k ≤ 100) : ∃ kl,keyOf Try.prog 91 (.agg (knownC t k)) = some kl := by
  obtain ⟨h1,h2,h3,h4,h5,h6⟩ := ht
  obtain ⟨m,hm⟩ := typesK
  have w1 := wf64 (n := t.p1) (by omega)
  have w2 := wf64 (n := t.p2) (by omega)
  have w3 := wf64 (n := t.t1) (by omega)
  have w4 := wf64 (n := t.t2) (by omega)
  have w5 := wf64 (n := t.r1) (by omega)
  have w6 := wf64 (n := t.r2) (by omega)
  have w7 := wf64 (n := (k : Int)) (by omega)
  have hf : (Value.agg (knownC t k)).formed Try.prog 91 = true := by simp [Value.formed,Try.underlying91,cellsK,knownC]
  unfold keyOf
  rw [hm,keyTypeK,hf]
  simp only [Try.underlying91,Bool.and_self,if_true]
  have hl : Try.prog.keyLits (m + 4) 91 (Value.agg (knownC t k)).cells.toList = some [.int .i64 t.p1,.int .i64 t.p2,.int .i64 t.t1,.int .i64 t.t2,.int .i64 t.r1,.int .i64 t.r2,.int .i64 (k : Int)] := by
    unfold Program.keyLits
    simp only [Try.underlying91]
    rw [if_pos ⟨by rw [cellsK]; rfl,by kernel_rfl⟩]
    simp [knownC,Value.cells,cellsT,cellsI,lits_tongue,lits_int,w1,w2,w3,w4,w5,w6,w7]
  rw [hl]
  exact ⟨_,rfl⟩

def moveD (m : Int × Int) : DataW Unit := .agg [.lit (.int .i64 m.1),.lit (.int .i64 m.2)]
def moveL : List Value → Option (DataW Unit × List MemPlace)
  | [.int .i64 a,.int .i64 b] => some (moveD (a,b),[])
  | _ => none
def moveR : Value → Option (DataW Unit × List MemPlace)
  | .agg cs => moveL cs.toList
  | _ => none
theorem moveR_inv {v : Value} {m : Int × Int} {ps : List MemPlace} (h : moveR v = some (moveD m,ps)) : v = .agg #[.int .i64 m.1,.int .i64 m.2] := by
  cases v with
  | agg cs =>
    obtain ⟨l⟩ := cs
    have h' : moveL l = some (moveD m,ps) := h
    unfold moveL at h'
    split at h'
    · simp only [Option.some.injEq,Prod.mk.injEq,moveD,DataW.agg.injEq,List.cons.injEq,DataW.lit.injEq,Lit.int.injEq,true_and,and_true] at h'
      obtain ⟨⟨rfl,rfl⟩,_⟩ := h'
      rfl
    · cases h'
  | _ => cases h

def Memo (J : Jb) (W : World) (bm cnt : Nat) : Prop :=
  ∃ es : List (Lit × DataW Unit),W.ownsMap Try.prog 91 moveR bm cnt (.map es) ∧ ∀ p ∈ es,∃ t k,keyOf Try.prog 91 (.agg (knownC t k)) = some p.1 ∧ p.2 = moveD (bestM J k t)

theorem Memo.kept {J : Jb} {W W' : World} {bm cnt : Nat} {row : Option Nat} (h : Memo J W bm cnt) (hg : W.grownBy W' row) (hne : some bm ≠ row) : Memo J W' bm cnt := by
  obtain ⟨es,ho,hg'⟩ := h
  exact ⟨es,ho.kept hg hne,hg'⟩
theorem Memo.lt {J : Jb} {W : World} {bm cnt : Nat} (h : Memo J W bm cnt) : bm < W.heap.size := by
  obtain ⟨es,ho,_⟩ := h
  exact ho.lt
theorem Memo.mono {J : Jb} {W : World} {bm cnt cnt' : Nat} (h : Memo J W bm cnt) (hn : cnt ≤ cnt') : Memo J W bm cnt' := by
  obtain ⟨es,ho,hg⟩ := h
  exact ⟨es,ho.mono hn,hg⟩
theorem Memo.made (J : Jb) (w : World) : Memo J (w.alloc (.map #[] 0)) w.heap.size 0 := ⟨[],World.ownsMap_made w _ _ _,by simp⟩

theorem zeroMove (w : World) : (zeroValue 89).run Try.prog w = .ok (.agg #[.int .i64 0,.int .i64 0]) w := by kernel_rfl

theorem Memo.look {J : Jb} {W : World} {bm cnt : Nat} (h : Memo J W bm cnt) {t : Tg} {k : Nat} {kl : Lit} (hkey : keyOf Try.prog 91 (.agg (knownC t k)) = some kl) :
    ((Instr.lookup 122 (.map (some bm)) (.agg (knownC t k)) true).run Try.prog W = .ok (.tuple #[.agg #[.int .i64 0,.int .i64 0],.bool false]) W) ∨
    ((Instr.lookup 122 (.map (some bm)) (.agg (knownC t k)) true).run Try.prog W = .ok (.tuple #[.agg #[.int .i64 (bestM J k t).1,.int .i64 (bestM J k t).2],.bool true]) W) := by
  obtain ⟨es,⟨ents,clock,hb,F,_,hD⟩,hgood⟩ := h
  rcases Maps.fit_look true keyedK Try.underlying122 (zeroMove W) hb F hkey with ⟨hrun,_,_⟩ | ⟨e0,y,hm,hk0,hrun,hRv,_,_⟩
  · exact .inl hrun
  · refine .inr ?_
    obtain ⟨y0,hy0⟩ := F.reads e0 hm
    obtain ⟨z,hz,hz2⟩ := rd_val hy0
    have hmem : y0 ∈ es := by
      injection hD with hD
      rw [hD,(sorted_perm _).mem_iff]
      exact List.mem_map.2 ⟨e0,hm,rg_of hy0⟩
    obtain ⟨t',k',hk',hd'⟩ := hgood y0 hmem
    have e1 := keyedK.inj (rd_key hy0) hk'
    obtain ⟨rfl,rfl⟩ := knownC_inj (hk0.symm.trans e1)
    have hv : moveR e0.val = some (moveD (bestM J k t),z.2) := by rw [hz,← hd',hz2]
    rw [moveR_inv hv] at hrun
    exact hrun

theorem Memo.store {J : Jb} {W : World} {bm cnt : Nat} (h : Memo J W bm cnt) (hc : cnt < maxLen) {t : Tg} {k : Nat} {kl : Lit} (hkey : keyOf Try.prog 91 (.agg (knownC t k)) = some kl) :
    ∃ W',(Instr.mapUpdate 122 (.map (some bm)) (.agg (knownC t k)) (.agg #[.int .i64 (bestM J k t).1,.int .i64 (bestM J k t).2])).run Try.prog W = .ok () W' ∧ Memo J W' bm (cnt + 1) ∧ W.grownBy W' (some bm) := by
  obtain ⟨es,ho,hgood⟩ := h
  obtain ⟨W',hrun,ho',hg⟩ := ho.update (val := .agg #[.int .i64 (bestM J k t).1,.int .i64 (bestM J k t).2]) (d := moveD (bestM J k t)) (ps := []) keyedK Try.underlying122 hc hkey rfl
  refine ⟨W',hrun,⟨_,ho',fun p hp => ?_⟩,hg⟩
  rcases ChangeMaps.mem_insert_iff.1 hp with rfl | hp
  · exact ⟨t,k,hkey,rfl⟩
  · exact hgood p ((List.mem_filter.1 hp).1)
end Go.Proofs.Ytadmcafbffjjbaa
namespace Go.Proofs.Ytadmcafbffjjbaa
set_option linter.all false
open Go.RowKit Go.Shelf

attribute [local go_sem] Oper.semAt_some

def KpB (Bp Bm : Nat) (W W' : World) : Prop := W'.heap[Bp]? = W.heap[Bp]? ∧ W'.heap[Bm]? = W.heap[Bm]?

def upto (a b m : Int) (k : Nat) : List R2 := (List.range k).map fun (i : Nat) => heardR a b (a - m + (i : Int)) m
theorem upto_succ (a b m : Int) (k : Nat) : upto a b m (k + 1) = upto a b m k ++ [heardR a b (a - m + (k : Int)) m] := by simp [upto,List.range_succ]
theorem upto_len (a b m : Int) (k : Nat) : (upto a b m k).length = k := by simp [upto]
theorem upto_all (a b m : Int) : readsL a b m = upto a b m (b + m - (a - m) + 1).toNat := rfl
theorem upto_pre (a b m : Int) (k n : Nat) (h : k ≤ n) : upto a b m k <+: upto a b m n := by
  obtain ⟨d,rfl⟩ := Nat.exists_eq_add_of_le h
  refine ⟨(List.range' k d).map fun (i : Nat) => heardR a b (a - m + (i : Int)) m,?_⟩
  simp only [upto,← List.map_append]
  rw [List.range_eq_range',List.range_eq_range']
  congr 1
  have := List.range'_append_1 (s := 0) (m := k) (n := d)
  simpa using this

theorem abides_of_below {β : Type} {B : Nat} {J : β → World → Prop} (h : AbidesFrom B J) {s : β} {W W' : World} (hs : J s W) (hb : Below W.heap.size W W') : J s W' :=
  h s W W' none hs ⟨hb.os,hb.tape,hb.output,hb.size,fun k hk _ => hb.block k hk⟩ (fun r e => by cases e)

theorem readings_any (a b m : Int) (w : World) :
    Calls Try.prog 49 #[.agg #[.int .i64 a,.int .i64 b],.int .i64 m] w fun e w' =>
      e = .returned (.func (.func 79) #[] #[.pointer (some ⟨w.heap.size,0,none⟩),.pointer (some ⟨w.heap.size + 1,0,none⟩)]) ∧
      w' = (w.alloc (.cells #[.int .i64 a,.int .i64 b] 23)).alloc (.cells #[.int .i64 m] 3) := by
  go_enter Try.func49,Try.ntmps49
  go_wp2
  go_ret
  exact ⟨rfl,rfl⟩
end Go.Proofs.Ytadmcafbffjjbaa
namespace Go.Proofs.Ytadmcafbffjjbaa
set_option linter.all false
open Go.RowKit

set_option maxHeartbeats 1000000 in
theorem spoiled_any (J : Jb) (s : Value) (w : World) :
    Calls Try.prog 62 #[.agg (jobC J s)] w fun e w' => e = .returned (.int .i64 (spoilI J.le J.tg)) ∧ w.alloc (.cells (jobC J s) 104) = w' := by
  by_cases h1 : J.t2 < J.le
  · have H : Hid (spoilI J.le J.tg = 1) := by show spoilI J.le J.tg = 1; simp [spoilI,Jb.tg,h1]
    go_enter Try.func62,Try.ntmps62
    go_wp2
    go_ret
    exact ⟨by rw [H.out]; rfl,rfl⟩
  · by_cases h2 : J.r2 < J.le
    · have H : Hid (spoilI J.le J.tg = 1) := by show spoilI J.le J.tg = 1; simp [spoilI,Jb.tg,h2]
      go_enter Try.func62,Try.ntmps62
      go_wp2
      go_ret
      exact ⟨by rw [H.out]; rfl,rfl⟩
    · by_cases h3 : J.le ≤ J.t1
      · by_cases h4 : J.le ≤ J.r1
        · have H : Hid (spoilI J.le J.tg = 2) := by show spoilI J.le J.tg = 2; simp [spoilI,Jb.tg,h1,h2,h3,h4]
          go_enter Try.func62,Try.ntmps62
          go_wp2
          go_ret
          exact ⟨by rw [H.out]; rfl,rfl⟩
        · have H : Hid (spoilI J.le J.tg = 3) := by show spoilI J.le J.tg = 3; simp [spoilI,Jb.tg,h1,h2,h4]
          go_enter Try.func62,Try.ntmps62
          go_wp2
          go_ret
          exact ⟨by rw [H.out]; rfl,rfl⟩
      · have H : Hid (spoilI J.le J.tg = 3) := by show spoilI J.le J.tg = 3; simp [spoilI,Jb.tg,h1,h2,h3]
        go_enter Try.func62,Try.ntmps62
        go_wp2
        go_ret
        exact ⟨by rw [H.out]; rfl,rfl⟩
end Go.Proofs.Ytadmcafbffjjbaa
namespace Go.Proofs.Ytadmcafbffjjbaa
set_option linter.all false
open Go.RowKit

theorem holds_any (a b c d : Int) (w : World) :
    Calls Try.prog 78 #[.agg #[.int .i64 a,.int .i64 b],.agg #[.int .i64 c,.int .i64 d]] w fun e w' => e = .returned (.bool (decide (a ≤ c ∧ d ≤ b))) ∧ (w.alloc (.cells #[.int .i64 a,.int .i64 b] 23)).alloc (.cells #[.int .i64 c,.int .i64 d] 23) = w' := by
  by_cases h : a ≤ c ∧ d ≤ b
  · rw [decide_eq_true h]; exact holds_yes a b c d h w
  · rw [decide_eq_false h]; exact holds_no a b c d h w

end Go.Proofs.Ytadmcafbffjjbaa
namespace Go.Proofs.Ytadmcafbffjjbaa
set_option linter.all false
open Go.RowKit

theorem afterS_snoc (J : Jb) (t : Tg) (l : List Int) (x : Int) : afterS J t (l ++ [x]) = strk J (afterS J t l) x := by simp [afterS]
theorem afterS_in (J : Jb) (hJ : J.In 1000) : ∀ (l : List Int) (t : Tg) (n : Int),t.In n → (afterS J t l).In (n + 12 * l.length)
  | [],t,n,h => by simpa [afterS] using h
  | x :: l,t,n,h => by
    have h1 := afterS_in J hJ l (strk J t x) (n + 12) (strk_in J t x n h hJ)
    have e : afterS J t (x :: l) = afterS J (strk J t x) l := rfl
    rw [e]
    refine h1.mono ?_
    simp only [List.length_cons]
    omega

set_option maxHeartbeats 1000000 in
set_option maxRecDepth 100000 in
theorem after_any (J : Jb) (sa : Option Addr) (sn sc : Nat) (a : Option Addr) (n c : Nat) (l : List Int) (w : World) (h : J.In 200) (hn : n = l.length) (hm : n ≤ 6) (hl : ∀ x ∈ l,x = 1 ∨ x = 2) (hr : Is w w.heap.size a l) :
    Calls Try.prog 72 #[.agg (jobC J (.slice sa sn sc)),.slice a n c] w (AfterEnd J l (.slice sa sn sc) w) := by
  have Hn : Hid (n = l.length) := hn
  clear hn
  have Hh : Hid (Is w w.heap.size a l) := hr
  clear hr
  have HJ : Hid (J.In 200) := h
  clear h
  have Hl : Hid (∀ x ∈ l,x = 1 ∨ x = 2) := hl
  clear hl
  go_enter Try.func72,Try.ntmps72
  go_wp2_with fail
  go_loopw [9] (fun i wr => ∃ (k : Nat) (K : Jb),k ≤ n ∧ i = .int .i64 k ∧ K = J.setTg (afterS J J.tg (l.take k)) ∧ Bk wr w.heap.size 104 (jobC K (.slice sa sn sc)) ∧ Bk wr (w.heap.size + 1) 104 #[.int .i64 0,.int .i64 0,.int .i64 0,.int .i64 0,.int .i64 0,.int .i64 0,.int .i64 0,.int .i64 0,.int .i64 0,.int .i64 0,.int .i64 0,.int .i64 0,.int .i64 0,.int .i64 0,.int .i64 0,.slice none 0 0,.int .i64 0,.int .i64 0] ∧ Below w.heap.size w wr) (fun i _ => n - (intOf i).toNat)
  case atStart =>
    refine ⟨0,J,Nat.zero_le _,rfl,rfl,(Bk.new w _ _).alloc _,?_,((Below.refl _ _).alloc (Nat.le_refl _) _).alloc (by simp) _⟩
    have h1 := Bk.new (w.alloc (.cells (jobC J (.slice sa sn sc)) 104)) 104 #[.int .i64 0,.int .i64 0,.int .i64 0,.int .i64 0,.int .i64 0,.int .i64 0,.int .i64 0,.int .i64 0,.int .i64 0,.int .i64 0,.int .i64 0,.int .i64 0,.int .i64 0,.int .i64 0,.int .i64 0,.slice none 0 0,.int .i64 0,.int .i64 0]
    rw [World.size_alloc] at h1
    exact h1
  case round =>
    obtain ⟨k,K,hk,rfl,hK,hj,ho,hB⟩ := hrel
    have HK : Hid (K = J.setTg (afterS J J.tg (l.take k))) := hK
    clear hK
    have hz := hB.size
    have hl1 := hj.lt
    have hl2 := ho.lt
    by_cases hlt : k < n
    · have hkl : k < l.length := by rw [← Hn.out]; exact hlt
      obtain ⟨b,off,rfl,hbl,e0⟩ := Hh.out k l[k] (List.getElem?_eq_getElem hkl)
      replace e0 := (hB.cell (p := ⟨b,off + k,none⟩) hbl).trans e0
      have hbl' : b < wr.heap.size := by omega
      have HKin : Hid (K.In 1000) := by
        show K.In 1000
        have h1 := afterS_in J (HJ.out.mono (by decide)) (l.take k) J.tg 200 HJ.out.tg
        rw [HK.out]
        refine HJ.out.setTg (h1.mono ?_)
        have := List.length_take_le k l
        omega
      go_wp2_with (refine wpList_load_row rfl 104 _ rfl w.heap.size rfl _ (jobC K (.slice sa sn sc)) _ _ hj Try.underlying104 rfl szWork ?_)
      refine (stroked_any K (.slice sa sn sc) _ (Hl.out _ (List.getElem_mem hkl)) _ HKin.out).mono ?_
      rintro e w1 ⟨rfl,hb⟩
      have hz1 := hb.size
      have hj1 := hj.below hb hl1
      have ho1 := ho.below hb hl2
      clear e0
      have d0 := hj1.at_ 0 _ rfl
      have d1 := hj1.at_ 1 _ rfl
      have d2 := hj1.at_ 2 _ rfl
      have d3 := hj1.at_ 3 _ rfl
      have d4 := hj1.at_ 4 _ rfl
      have d5 := hj1.at_ 5 _ rfl
      have f0 := hj1.free 0
      have f1 := hj1.free 1
      have f2 := hj1.free 2
      have f3 := hj1.free 3
      have f4 := hj1.free 4
      have f5 := hj1.free 5
      go_wp2
      go_roundw
      case rel =>
        refine ⟨k + 1,K.setTg (strk K K.tg l[k]),by omega,by go_num,?_,((((((hj1.put 0 _).put 1 _).put 2 _).put 3 _).put 4 _).put 5 _),?_,?_⟩
        · rw [take_snoc l k hkl,afterS_snoc,HK.out]; rfl
        · iterate 6 (refine Bk.other ?_ (by simp) _)
          exact ho1
        · iterate 6 (refine Below.setCell ?_ (by simp) _)
          exact hB.trans (hb.mono hz)
      case measure => simp [intOf]; omega
    · obtain rfl : k = n := by omega
      go_wp2_with (first | (refine wpList_load_row rfl 104 _ rfl w.heap.size rfl _ (jobC K (.slice sa sn sc)) _ _ hj Try.underlying104 rfl szWork ?_) | (refine wpList_store_row rfl 104 _ _ rfl (w.heap.size + 1) (jobC K (.slice sa sn sc)) rfl rfl _ _ ho szWork rfl (oneJob _ _ _ _) ?_))
      have e : l.take k = l := by rw [Hn.out]; exact List.take_length
      refine bodyPost_ret (v := .agg (jobC K (.slice sa sn sc))) (results_cell_row Try.results72 _ _ _ _ _ _ _ rfl (ho.row _) Try.underlying104 rfl szWork) rfl ⟨by rw [HK.out,e],?_⟩
      exact below_setRow hB (by simp) _
end Go.Proofs.Ytadmcafbffjjbaa
namespace Go.Proofs.Ytadmcafbffjjbaa
set_option linter.all false
open Go.RowKit Go.Shelf

attribute [local go_sem] Oper.semAt_some

theorem wpIn_scope {n : Nat} {P : Program} {c : Code} {Q : Exit → Act → World → Prop} {a : Act} {w : World} (h : c.wpIn Fence.wide n P (Exit.noGoto Q) a w) : (Code.scope c).wpIn Fence.wide n P Q a w :=
  wpIn_wide.2 (wp_scope_straight ((wpIn_wide (n := n)).1 h))

structure Env (J : Jb) (s : Value) (Bw Bf Bj Bb bm : Nat) (W : World) : Prop where
  win : Bk W Bw 23 #[.int .i64 (win J.wi J.sh).1,.int .i64 (win J.wi J.sh).2]
  found : Bk W Bf 122 #[.map (some bm)]
  job : Bk W Bj 30 (jobC J s)
  best : Bk W Bb 83 #[.func (.func 77) #[] #[.pointer (some ⟨Bw,0,none⟩),.pointer (some ⟨Bf,0,none⟩),.pointer (some ⟨Bj,0,none⟩),.pointer (some ⟨Bb,0,none⟩)]]

theorem bk_ne_memo {J : Jb} {W : World} {g bm cnt : Nat} {t : TypeId} {cs : Array Value} (h : Bk W g t cs) (hm : Memo J W bm cnt) : g ≠ bm := by
  rintro rfl
  obtain ⟨_,⟨_,_,hb,_⟩,_⟩ := hm
  unfold Bk at h
  rw [h] at hb
  cases hb
theorem Env.grown {J : Jb} {s : Value} {Bw Bf Bj Bb bm cnt : Nat} {W W' : World} (h : Env J s Bw Bf Bj Bb bm W) (hm : Memo J W bm cnt) (hg : W.grownBy W' (some bm)) : Env J s Bw Bf Bj Bb bm W' :=
  ⟨h.win.grown hg (fun e => bk_ne_memo h.win hm (by injection e)),h.found.grown hg (fun e => bk_ne_memo h.found hm (by injection e)),h.job.grown hg (fun e => bk_ne_memo h.job hm (by injection e)),h.best.grown hg (fun e => bk_ne_memo h.best hm (by injection e))⟩
theorem Env.below {J : Jb} {s : Value} {Bw Bf Bj Bb bm : Nat} {W W' : World} (h : Env J s Bw Bf Bj Bb bm W) (hb : Below W.heap.size W W') : Env J s Bw Bf Bj Bb bm W' :=
  ⟨h.win.below hb h.win.lt,h.found.below hb h.found.lt,h.job.below hb h.job.lt,h.best.below hb h.best.lt⟩

theorem grown_of_below {W W' : World} (h : Below W.heap.size W W') (row : Option Nat) : W.grownBy W' row := ⟨h.os,h.tape,h.output,h.size,fun k hk _ => h.block k hk⟩

theorem below4 (W : World) (o1 o2 o3 o4 : Obj) : Below W.heap.size W ((((W.alloc o1).alloc o2).alloc o3).alloc o4) :=
  ((((Below.refl _ _).alloc (Nat.le_refl _) _).alloc (by simp) _).alloc (by simp; omega) _).alloc (by simp; omega) _

def cost : Nat → Nat
  | 0 => 0
  | k + 1 => 1 + 4000 * cost k

def BestEnd (J : Jb) (k : Nat) (t : Tg) (bm cnt : Nat) (W : World) (e : Ending) (W' : World) : Prop :=
  e = .returned (.agg #[.int .i64 (bestM J k t).1,.int .i64 (bestM J k t).2]) ∧ (∃ cnt',cnt' ≤ cnt + cost k ∧ Memo J W' bm cnt') ∧ W.grownBy W' (some bm)

set_option maxHeartbeats 1000000 in
set_option maxRecDepth 100000 in
theorem best_stop (J : Jb) (s : Value) (Bw Bf Bj Bb bm cnt k : Nat) (t : Tg) (W : World) (hE : Env J s Bw Bf Bj Bb bm W) (hM : Memo J W bm cnt) (h : (win J.wi J.sh).1 ≤ t.p1 ∧ t.p2 ≤ (win J.wi J.sh).2) :
    Calls Try.prog 77 #[.agg #[.int .i64 t.p1,.int .i64 t.p2,.int .i64 t.t1,.int .i64 t.t2,.int .i64 t.r1,.int .i64 t.r2,.int .i64 (k : Int)],.pointer (some ⟨Bw,0,none⟩),.pointer (some ⟨Bf,0,none⟩),.pointer (some ⟨Bj,0,none⟩),.pointer (some ⟨Bb,0,none⟩)] W (BestEnd J k t bm cnt W) := by
  have He : Hid (bestM J k t = (0,0)) := by
    show bestM J k t = (0,0)
    cases k <;> (unfold bestM; rw [if_pos h])
  have hd : decide ((win J.wi J.sh).1 ≤ t.p1 ∧ t.p2 ≤ (win J.wi J.sh).2) = true := decide_eq_true h
  have HM := hidMk hM
  have l1 := hE.win.lt
  have l2 : Bw < W.heap.size + 1 := by omega
  have w0 := hE.win.at_ 0 _ rfl
  have w1 := hE.win.at_ 1 _ rfl
  clear h hM hE
  refine (callsIn_wide (n := 3)).1 (callsIn_of_wp_marks Try.func77 rfl trivial ?_ rfl)
  simp only [Try.ntmps77,List.size_toArray,List.length_cons,List.length_nil,Nat.reduceAdd,Nat.reduceSub,Array.replicate_succ,Array.replicate_zero,List.push_toArray,List.append_toArray,List.nil_append,List.cons_append]
  gi_wp2_with fail
  refine wpIn_scope ?_
  gi_wp2_with (refine ⟨trivial,?_⟩; gi_at_call 78; refine (callsIn_wide.2 (holds_any _ _ _ _ _)).mono ?_; rintro e w2 ⟨rfl,rfl⟩)
  rw [Exit.noGoto_ret]
  have r0 : Bk (W.alloc (.cells #[.int .i64 t.p1,.int .i64 t.p2,.int .i64 t.t1,.int .i64 t.t2,.int .i64 t.r1,.int .i64 t.r2,.int .i64 (k : Int)] 91)) W.heap.size 91 #[.int .i64 t.p1,.int .i64 t.p2,.int .i64 t.t1,.int .i64 t.t2,.int .i64 t.r1,.int .i64 t.r2,.int .i64 (k : Int)] := Bk.new _ _ _
  have r1 : Bk ((W.alloc (.cells #[.int .i64 t.p1,.int .i64 t.p2,.int .i64 t.t1,.int .i64 t.t2,.int .i64 t.r1,.int .i64 t.r2,.int .i64 (k : Int)] 91)).alloc (.cells #[.int .i64 0,.int .i64 0] 89)) (W.heap.size + 1) 89 #[.int .i64 0,.int .i64 0] := Bk.newAt _ _ _ _ (by simp)
  exact ⟨_,results_cell_row Try.results77 _ _ _ _ _ _ _ rfl ((r1.alloc _).alloc _) Try.underlying89 rfl szMove,by rw [He.out],⟨cnt,by omega,HM.out.kept (grown_of_below (below4 W _ _ _ _) none) (by simp)⟩,grown_of_below (below4 W _ _ _ _) _⟩

set_option maxHeartbeats 1000000 in
set_option maxRecDepth 100000 in
theorem best_none (J : Jb) (s : Value) (Bw Bf Bj Bb bm cnt : Nat) (t : Tg) (W : World) (hE : Env J s Bw Bf Bj Bb bm W) (hM : Memo J W bm cnt) (h : ¬ ((win J.wi J.sh).1 ≤ t.p1 ∧ t.p2 ≤ (win J.wi J.sh).2)) :
    Calls Try.prog 77 #[.agg #[.int .i64 t.p1,.int .i64 t.p2,.int .i64 t.t1,.int .i64 t.t2,.int .i64 t.r1,.int .i64 t.r2,.int .i64 0],.pointer (some ⟨Bw,0,none⟩),.pointer (some ⟨Bf,0,none⟩),.pointer (some ⟨Bj,0,none⟩),.pointer (some ⟨Bb,0,none⟩)] W (BestEnd J 0 t bm cnt W) := by
  have He : Hid (bestM J 0 t = (0,5)) := by
    show bestM J 0 t = (0,5)
    unfold bestM; rw [if_neg h]
  have hd : decide ((win J.wi J.sh).1 ≤ t.p1 ∧ t.p2 ≤ (win J.wi J.sh).2) = false := decide_eq_false h
  have HM := hidMk hM
  have l1 := hE.win.lt
  have l2 : Bw < W.heap.size + 1 := by omega
  have w0 := hE.win.at_ 0 _ rfl
  have w1 := hE.win.at_ 1 _ rfl
  clear h hM hE
  refine (callsIn_wide (n := 3)).1 (callsIn_of_wp_marks Try.func77 rfl trivial ?_ rfl)
  simp only [Try.ntmps77,List.size_toArray,List.length_cons,List.length_nil,Nat.reduceAdd,Nat.reduceSub,Array.replicate_succ,Array.replicate_zero,List.push_toArray,List.append_toArray,List.nil_append,List.cons_append]
  gi_wp2_with fail
  refine wpIn_scope ?_
  gi_wp2_with (refine ⟨trivial,?_⟩; gi_at_call 78; refine (callsIn_wide.2 (holds_any _ _ _ _ _)).mono ?_; rintro e w2 ⟨rfl,rfl⟩)
  rw [Exit.noGoto_ret]
  have r1 : Bk ((W.alloc (.cells #[.int .i64 t.p1,.int .i64 t.p2,.int .i64 t.t1,.int .i64 t.t2,.int .i64 t.r1,.int .i64 t.r2,.int .i64 0] 91)).alloc (.cells #[.int .i64 0,.int .i64 5] 89)) (W.heap.size + 1) 89 #[.int .i64 0,.int .i64 5] := Bk.newAt _ _ _ _ (by simp)
  exact ⟨_,results_cell_row Try.results77 _ _ _ _ _ _ _ rfl ((r1.alloc _).alloc _) Try.underlying89 rfl szMove,by rw [He.out],⟨cnt,by omega,HM.out.kept (grown_of_below (below4 W _ _ _ _) none) (by simp)⟩,grown_of_below (below4 W _ _ _ _) _⟩
end Go.Proofs.Ytadmcafbffjjbaa
namespace Go.Proofs.Ytadmcafbffjjbaa
set_option linter.all false
open Go.RowKit Go.Shelf

attribute [local go_sem] Oper.semAt_some

theorem knownC_succ (t : Tg) (k : Nat) : knownC t (k + 1) = #[.int .i64 t.p1,.int .i64 t.p2,.int .i64 t.t1,.int .i64 t.t2,.int .i64 t.r1,.int .i64 t.r2,.int .i64 ((k : Int) + 1)] := by simp [knownC]

end Go.Proofs.Ytadmcafbffjjbaa
namespace Go.Proofs.Ytadmcafbffjjbaa
set_option linter.all false
open Go.RowKit

def kindE : List Int → Int
  | [] => 0
  | x :: l => if x = 1 ∨ x = 2 then kindE l else 8
def strokesE (l : List Int) : Int := if 6 < l.length then 6 else kindE l
theorem kindE_ok : ∀ (l : List Int),kindE l = 0 → ∀ x ∈ l,x = 1 ∨ x = 2
  | [],_,x,h => by simp at h
  | y :: l,h,x,hx => by
    unfold kindE at h
    by_cases h0 : y = 1 ∨ y = 2
    · rw [if_pos h0] at h
      rcases List.mem_cons.1 hx with rfl | hx
      · exact h0
      · exact kindE_ok l h x hx
    · rw [if_neg h0] at h; omega

set_option maxHeartbeats 1000000 in
theorem checkStrokes_any (a : Option Addr) (n c : Nat) (l : List Int) (w : World) (hn : n = l.length) (hm : n ≤ 9223372036854775807) (h : Is w w.heap.size a l) :
    Calls Try.prog 85 #[.slice a n c] w fun e w' => e = .returned (.int .i64 (strokesE l)) ∧ w = w' := by
  have Hn : Hid (n = l.length) := hn
  have Hh : Hid (Is w w.heap.size a l) := h
  clear hn h
  by_cases h6 : 6 < n
  · have He : Hid (strokesE l = 6) := by show strokesE l = 6; unfold strokesE; rw [if_pos (by rw [← Hn.out]; exact h6)]
    go_enter Try.func85,Try.ntmps85
    go_wp2
    go_ret
    exact ⟨ret_i (by rw [He.out]),rfl⟩
  · have He : Hid (strokesE l = kindE l) := by show strokesE l = kindE l; unfold strokesE; rw [if_neg (by rw [← Hn.out]; exact h6)]
    go_enter Try.func85,Try.ntmps85
    go_wp2
    go_loop [10] (fun i => ∃ k : Nat,k ≤ n ∧ i = .int .i64 k ∧ Hid (kindE l = kindE (l.drop k))) (fun i => n - (intOf i).toNat)
    case atStart => exact ⟨0,Nat.zero_le _,rfl,hidMk rfl⟩
    case round =>
      obtain ⟨k,hk,rfl,Hf⟩ := hrel
      by_cases hlt : k < n
      · have hkl : k < l.length := by rw [← Hn.out]; exact hlt
        obtain ⟨b,off,rfl,hbl,e0⟩ := Hh.out k l[k] (List.getElem?_eq_getElem hkl)
        obtain ⟨x,Hx⟩ : ∃ x,Hid (x = l[k]) := ⟨_,hidMk rfl⟩
        rw [← Hx.out] at e0
        have Hd : Hid (l.drop k = x :: l.drop (k + 1)) := by show _ = _; rw [Hx.out]; exact List.drop_eq_getElem_cons hkl
        by_cases h1 : x = 1
        · have h1b : (x == 1) = true := by simp [h1]
          have Hi : Hid (x = 1 ∨ x = 2) := .inl h1
          clear h1
          go_wp2
          go_round
          case rel => exact ⟨k + 1,by omega,by go_num,hidMk (by rw [Hf.out,Hd.out,kindE,if_pos Hi.out])⟩
          case measure => simp [intOf]; omega
        · have h1b : (x == 1) = false := by simp [h1]
          by_cases h2 : x = 2
          · have h2b : (x == 2) = true := by simp [h2]
            have Hi : Hid (x = 1 ∨ x = 2) := .inr h2
            clear h1 h2
            go_wp2
            go_round
            case rel => exact ⟨k + 1,by omega,by go_num,hidMk (by rw [Hf.out,Hd.out,kindE,if_pos Hi.out])⟩
            case measure => simp [intOf]; omega
          · have h2b : (x == 2) = false := by simp [h2]
            have Hi : Hid (¬ (x = 1 ∨ x = 2)) := by show ¬ _; omega
            clear h1 h2
            go_wp2
            go_ret
            exact ⟨ret_i (by rw [He.out,Hf.out,Hd.out,kindE,if_neg Hi.out]),rfl⟩
      · obtain rfl : k = n := by omega
        go_wp2
        go_ret
        exact ⟨ret_i (by rw [He.out,Hf.out,List.drop_of_length_le (by rw [← Hn.out]; omega)]; rfl),rfl⟩

def filedE (J : Jb) (l : List Int) : Int := if J.check = 0 then strokesE l else J.check
def zeroJ : Jb := ⟨0,0,0,0,0,0,0,0,0,0,0,0,0,0,0,0,0,[]⟩
def FiledEnd (J : Jb) (l : List Int) (a : Option Addr) (n c : Nat) (w : World) (e : Ending) (w' : World) : Prop :=
  (if filedE J l = 0 then e = .returned (.tuple #[.agg (jobC (J.setTg (afterS J J.tg l)) (.slice a n c)),.int .i64 0])
    else e = .returned (.tuple #[.agg (jobC zeroJ (.slice none 0 0)),.int .i64 (filedE J l)])) ∧ Below w.heap.size w w'

theorem filed_first (J : Jb) (l : List Int) : firstE [J.check,strokesE l] = filedE J l := by
  unfold filedE firstE firstE firstE
  by_cases h : J.check = 0
  · rw [if_pos h,if_pos h]
    by_cases h2 : strokesE l = 0
    · rw [if_pos h2,h2]
    · rw [if_neg h2]
  · rw [if_neg h,if_neg h]

set_option maxHeartbeats 1000000 in
set_option maxRecDepth 100000 in
theorem filed_any (J : Jb) (a : Option Addr) (n c : Nat) (b : Option Addr) (m d : Nat) (l : List Int) (w : World) (hn : n = J.sh.length) (hm : n ≤ 9223372036854775807) (h : Rg w w.heap.size a J.sh)
    (hmn : m = l.length) (hmm : m ≤ 9223372036854775807) (hl : Is w w.heap.size b l) :
    Calls Try.prog 60 #[.agg (jobC J (.slice a n c)),.slice b m d] w (FiledEnd J l a n c w) := by
  have Hn : Hid (n = J.sh.length) := hn
  have Hh : Hid (Rg w w.heap.size a J.sh) := h
  have Hm : Hid (m = l.length) := hmn
  have Hl : Hid (Is w w.heap.size b l) := hl
  clear hn h hmn hl
  have b0 : Bk ((w.alloc (.cells (jobC J (.slice a n c)) 30)).alloc (.cells #[.int .i64 0,.int .i64 0,.int .i64 0,.int .i64 0,.int .i64 0,.int .i64 0,.int .i64 0,.int .i64 0,.int .i64 0,.int .i64 0,.int .i64 0,.int .i64 0,.int .i64 0,.int .i64 0,.int .i64 0,.slice none 0 0,.int .i64 0,.int .i64 0] 104)) w.heap.size 30 (jobC J (.slice a n c)) := (Bk.new w _ _).alloc _
  have b1 : Bk ((w.alloc (.cells (jobC J (.slice a n c)) 30)).alloc (.cells #[.int .i64 0,.int .i64 0,.int .i64 0,.int .i64 0,.int .i64 0,.int .i64 0,.int .i64 0,.int .i64 0,.int .i64 0,.int .i64 0,.int .i64 0,.int .i64 0,.int .i64 0,.int .i64 0,.int .i64 0,.slice none 0 0,.int .i64 0,.int .i64 0] 104)) (w.heap.size + 1) 104 #[.int .i64 0,.int .i64 0,.int .i64 0,.int .i64 0,.int .i64 0,.int .i64 0,.int .i64 0,.int .i64 0,.int .i64 0,.int .i64 0,.int .i64 0,.int .i64 0,.int .i64 0,.int .i64 0,.int .i64 0,.slice none 0 0,.int .i64 0,.int .i64 0] := Bk.newAt _ _ _ _ (by simp)
  have hW : Below w.heap.size w ((w.alloc (.cells (jobC J (.slice a n c)) 30)).alloc (.cells #[.int .i64 0,.int .i64 0,.int .i64 0,.int .i64 0,.int .i64 0,.int .i64 0,.int .i64 0,.int .i64 0,.int .i64 0,.int .i64 0,.int .i64 0,.int .i64 0,.int .i64 0,.int .i64 0,.int .i64 0,.slice none 0 0,.int .i64 0,.int .i64 0] 104)) := ((Below.refl _ _).alloc (Nat.le_refl _) _).alloc (by simp) _
  by_cases hc : filedE J l = 0
  · have hcb : (firstE [J.check,strokesE l] != 0) = false := by rw [filed_first]; simp [hc]
    have Hc := hidMk hc
    have hc0 : J.check = 0 := by
      by_cases h0 : J.check = 0
      · exact h0
      · unfold filedE at hc; rw [if_neg h0] at hc; exact absurd hc h0
    have hs0 : strokesE l = 0 := by unfold filedE at hc; rw [if_pos hc0] at hc; exact hc
    have HJ := hidMk ((check_ok hc0).inn.mono (by decide : (100 : Int) ≤ 200))
    have Hs := hidMk hs0
    have h6 : m ≤ 6 := by
      unfold strokesE at hs0
      rw [Hm.out]
      by_cases h6 : 6 < l.length
      · rw [if_pos h6] at hs0; omega
      · omega
    have Hk : Hid (∀ x ∈ l,x = 1 ∨ x = 2) := by
      show ∀ x ∈ l,x = 1 ∨ x = 2
      unfold strokesE at hs0
      by_cases h6 : 6 < l.length
      · rw [if_pos h6] at hs0; omega
      · rw [if_neg h6] at hs0; exact kindE_ok l hs0
    clear hc hc0 hs0
    go_enter Try.func60,Try.ntmps60
    go_wp2_with (refine wpList_load_row rfl 30 _ rfl w.heap.size rfl _ (jobC J (.slice a n c)) _ _ b0 Try.underlying30 rfl szJob ?_)
    refine (check_any J a n c _ Hn.out hm (Hh.out.up hW)).mono ?_
    rintro e w1 ⟨rfl,hb1⟩
    have hz1 := hb1.size
    simp only [World.size_alloc] at hz1
    have k0 := b0.below hb1 (by simp; omega)
    have k1 := b1.below hb1 (by simp)
    have hB1 : Below w.heap.size w w1 := hW.trans (hb1.mono (by simp; omega))
    clear hb1 b0 b1 hW
    go_wp2_with (first | (go_at_call 85; refine (checkStrokes_any _ _ _ l _ Hm.out hmm (Hl.out.up hB1)).mono ?_; rintro e w2 ⟨rfl,rfl⟩) | (go_at_call 74; refine (first_any _ _ _ [J.check,strokesE l] _ rfl (by simp) (Is.of_bk _ (Bk.new _ _ _) (by simp))).mono ?_; rintro e w2 ⟨rfl,rfl⟩) | (refine wpList_load_row rfl 30 _ rfl w.heap.size rfl _ (jobC J (.slice a n c)) _ _ (k0.alloc _) Try.underlying30 rfl szJob ?_))
    refine (after_any J a n c b m d l _ HJ.out Hm.out h6 Hk.out (Hl.out.up (hB1.alloc (by omega) _))).mono ?_
    rintro e w3 ⟨rfl,hb3⟩
    have hz3 := hb3.size
    simp only [World.size_alloc] at hz3
    have q1 := (k1.alloc _).below hb3 (by simp; omega)
    have hB3 : Below w.heap.size w w3 := (hB1.alloc (by omega) _).trans (hb3.mono (by simp; omega))
    clear hb3 k0 k1 hB1
    go_wp2_with (refine wpList_store_row rfl 104 _ _ rfl (w.heap.size + 1) (jobC (J.setTg (afterS J J.tg l)) (.slice a n c)) rfl rfl _ _ q1 szWork rfl (oneJob _ _ _ _) ?_)
    refine bodyPost_ret (results_row_tmp Try.results60 _ _ _ _ _ _ rfl rfl (q1.row _) Try.underlying104 szWork) rfl ⟨?_,below_setRow hB3 (by simp) _⟩
    rw [if_pos Hc.out]
    rfl
  · have hcb : (firstE [J.check,strokesE l] != 0) = true := by rw [filed_first]; simpa using hc
    have Hc := hidMk hc
    clear hc
    go_enter Try.func60,Try.ntmps60
    go_wp2_with (refine wpList_load_row rfl 30 _ rfl w.heap.size rfl _ (jobC J (.slice a n c)) _ _ b0 Try.underlying30 rfl szJob ?_)
    refine (check_any J a n c _ Hn.out hm (Hh.out.up hW)).mono ?_
    rintro e w1 ⟨rfl,hb1⟩
    have hz1 := hb1.size
    simp only [World.size_alloc] at hz1
    have k0 := b0.below hb1 (by simp; omega)
    have k1 := b1.below hb1 (by simp)
    have hB1 : Below w.heap.size w w1 := hW.trans (hb1.mono (by simp; omega))
    clear hb1 b0 b1 hW
    have q1 := k1.alloc (.cells #[.int .i64 J.check,.int .i64 (strokesE l)] 39)
    go_wp2_with (first | (go_at_call 85; refine (checkStrokes_any _ _ _ l _ Hm.out hmm (Hl.out.up hB1)).mono ?_; rintro e w2 ⟨rfl,rfl⟩) | (go_at_call 74; refine (first_any _ _ _ [J.check,strokesE l] _ rfl (by simp) (Is.of_bk _ (Bk.new _ _ _) (by simp))).mono ?_; rintro e w2 ⟨rfl,rfl⟩) | (refine wpList_store_row rfl 104 _ _ rfl (w.heap.size + 1) (jobC zeroJ (.slice none 0 0)) rfl rfl _ _ q1 szWork rfl (oneJob _ _ _ _) ?_))
    refine bodyPost_ret (results_row_tmp Try.results60 _ _ _ _ _ _ rfl rfl (q1.row _) Try.underlying104 szWork) rfl ⟨?_,below_setRow (hB1.alloc (by omega) _) (by simp) _⟩
    rw [if_neg Hc.out,← filed_first]
    rfl

def AfterAns (J : Jb) (l : List Int) (w : World) (e : Ending) (w' : World) : Prop :=
  (if filedE J l = 0 then e = .returned (.tuple #[.agg (tonC (afterS J J.tg l)),.int .i64 0])
    else e = .returned (.tuple #[.agg (tonC zeroJ.tg),.int .i64 (filedE J l)])) ∧ Below w.heap.size w w'
end Go.Proofs.Ytadmcafbffjjbaa
namespace Go.Proofs.Ytadmcafbffjjbaa
set_option linter.all false
open Go.RowKit

set_option maxHeartbeats 1000000 in
set_option maxRecDepth 100000 in
theorem afterF_any (J : Jb) (a : Option Addr) (n c : Nat) (b : Option Addr) (m d : Nat) (l : List Int) (w : World) (hn : n = J.sh.length) (hm : n ≤ 9223372036854775807) (h : Rg w w.heap.size a J.sh)
    (hmn : m = l.length) (hmm : m ≤ 9223372036854775807) (hl : Is w w.heap.size b l) :
    Calls Try.prog 25 #[.agg (jobC J (.slice a n c)),.slice b m d] w (AfterAns J l w) := by
  have Hn : Hid (n = J.sh.length) := hn
  have Hh : Hid (Rg w w.heap.size a J.sh) := h
  have Hm : Hid (m = l.length) := hmn
  have Hl : Hid (Is w w.heap.size b l) := hl
  clear hn h hmn hl
  have b0 : Bk ((w.alloc (.cells (jobC J (.slice a n c)) 30)).alloc (.cells #[.int .i64 0,.int .i64 0,.int .i64 0,.int .i64 0,.int .i64 0,.int .i64 0] 25)) w.heap.size 30 (jobC J (.slice a n c)) := (Bk.new w _ _).alloc _
  have b1 : Bk ((w.alloc (.cells (jobC J (.slice a n c)) 30)).alloc (.cells #[.int .i64 0,.int .i64 0,.int .i64 0,.int .i64 0,.int .i64 0,.int .i64 0] 25)) (w.heap.size + 1) 25 #[.int .i64 0,.int .i64 0,.int .i64 0,.int .i64 0,.int .i64 0,.int .i64 0] := Bk.newAt _ _ _ _ (by simp)
  have hW : Below w.heap.size w ((w.alloc (.cells (jobC J (.slice a n c)) 30)).alloc (.cells #[.int .i64 0,.int .i64 0,.int .i64 0,.int .i64 0,.int .i64 0,.int .i64 0] 25)) := ((Below.refl _ _).alloc (Nat.le_refl _) _).alloc (by simp) _
  by_cases hc : filedE J l = 0
  · have Hc := hidMk hc
    clear hc
    go_enter Try.func25,Try.ntmps25
    go_wp2_with (refine wpList_load_row rfl 30 _ rfl w.heap.size rfl _ (jobC J (.slice a n c)) _ _ b0 Try.underlying30 rfl szJob ?_)
    refine (filed_any J a n c b m d l _ Hn.out hm (Hh.out.up hW) Hm.out hmm (Hl.out.up hW)).mono ?_
    rintro e w1 ⟨he,hb1⟩
    rw [if_pos Hc.out] at he
    subst he
    have hz1 := hb1.size
    simp only [World.size_alloc] at hz1
    have k1 := b1.below hb1 (by simp)
    have hB1 : Below w.heap.size w w1 := hW.trans (hb1.mono (by simp; omega))
    clear hb1 b0 b1 hW
    obtain ⟨T,hT⟩ : ∃ T,afterS J J.tg l = T := ⟨_,rfl⟩
    have HT := hidMk hT
    rw [hT]
    clear hT
    have q1 := k1.alloc (.cells (jobC (J.setTg T) (.slice a n c)) 104)
    go_wp2_with (first | (refine wpList_store_row rfl 104 _ _ rfl w1.heap.size (jobC (J.setTg T) (.slice a n c)) rfl rfl _ _ (Bk.new _ _ _) szWork rfl (oneJob _ _ _ _) ?_; rw [World.setRow_alloc_new]) | refine wpList_store_row rfl 25 _ _ rfl (w.heap.size + 1) (tonC T) rfl rfl _ _ q1 szTongue rfl (oneTon _) ?_)
    refine bodyPost_ret (results_row_tmp Try.results25 _ _ _ _ _ _ rfl rfl (q1.row _) Try.underlying25 szTongue) rfl ⟨?_,below_setRow (hB1.alloc (by omega) _) (by simp) _⟩
    rw [if_pos Hc.out,HT.out]
    rfl
  · have Hc := hidMk hc
    clear hc
    go_enter Try.func25,Try.ntmps25
    go_wp2_with (refine wpList_load_row rfl 30 _ rfl w.heap.size rfl _ (jobC J (.slice a n c)) _ _ b0 Try.underlying30 rfl szJob ?_)
    refine (filed_any J a n c b m d l _ Hn.out hm (Hh.out.up hW) Hm.out hmm (Hl.out.up hW)).mono ?_
    rintro e w1 ⟨he,hb1⟩
    rw [if_neg Hc.out] at he
    subst he
    have hz1 := hb1.size
    simp only [World.size_alloc] at hz1
    have k1 := b1.below hb1 (by simp)
    have hB1 : Below w.heap.size w w1 := hW.trans (hb1.mono (by simp; omega))
    clear hb1 b0 b1 hW
    have q1 := k1.alloc (.cells (jobC zeroJ (.slice none 0 0)) 104)
    go_wp2_with (first | (refine wpList_store_row rfl 104 _ _ rfl w1.heap.size (jobC zeroJ (.slice none 0 0)) rfl rfl _ _ (Bk.new _ _ _) szWork rfl (oneJob _ _ _ _) ?_; rw [World.setRow_alloc_new]) | refine wpList_store_row rfl 25 _ _ rfl (w.heap.size + 1) (tonC zeroJ.tg) rfl rfl _ _ q1 szTongue rfl (oneTon _) ?_)
    refine bodyPost_ret (results_row_tmp Try.results25 _ _ _ _ _ _ rfl rfl (q1.row _) Try.underlying25 szTongue) rfl ⟨?_,below_setRow (hB1.alloc (by omega) _) (by simp) _⟩
    rw [if_neg Hc.out]
    rfl
end Go.Proofs.Ytadmcafbffjjbaa
namespace Go.Proofs.Ytadmcafbffjjbaa
set_option linter.all false
open Go.RowKit

theorem region_via {P : Program} {id : Nat} {ops : Array Oper} {b : Bool} {Q : Exit → Act → World → Prop} {a : Act} {w : World} (R : Act → Exit → Act → World → Prop) (h : (Code.region id ops b).wp P (R a) a w) (hR : ∀ e a' w',R a e a' w' → Q e a' w') : (Code.region id ops b).wp P Q a w :=
  Code.wp_mono hR h
theorem yields_row {P : Program} {ops : Array Oper} {S : World → Prop} {op : Oper} {a : Act} (hw : Region.wanted op (yielded ops a.tmps) = true) (ty : TypeId) (x : Operand) (ho : op.op = .load ty x)
    (g : Nat) (cs : Array Value) (hx : a.eval x = .pointer (some ⟨g,0,none⟩)) (t : TypeId) (hS : ∀ w,S w → Bk w g t cs) {fs : Array Field} (hu : P.underlying ty = some (.struct fs)) (hi : (P.info? ty).map (·.size) = some cs.size) : YieldsIf P ops S op (.agg cs) a :=
  .inl ⟨hw,fun w hw' => by
    have hg := hS w hw'
    unfold execOp
    simp only [ho,hx,Instr.loadAt,Instr.sureAddr,Sem.run_bind,Sem.run_pure,Result.andThen_ok,run_loadVar_row w g _ ty cs _ _ hg hu rfl hi]⟩
end Go.Proofs.Ytadmcafbffjjbaa
