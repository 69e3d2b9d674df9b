/- Part 1 of the proof: Window, Sh0, Memo, Read, Spoil, Pass, After, Best, More, Filed, AfterB, Via, Rnd, BmA, BmC, BmB, GmA, Full, GmM, BmD, ReadB, BmE, BmF, BmG, BmH, BmI, BmJ, BmK, BmL, GP, NX, GdA, GdB, GdC, GdD, GrA, GnA, TrueD, AlA, TruP, AlB. -/
import Derived.Laws.ResultCell
import Derived.Maps.Own
import Derived.Maps.AppendAt
import Derived.DeepKeys4
import Derived.RangeFuncNested
import Derived.RangeFuncBound
import Derived.RangeFuncCalls
import Derived.RangeFuncLeaves
import Derived.Shelf.Abstract
import Derived.Shelf.RegionOpen
import Derived.WalkKit
import Derived.OwnWalkIn
import Derived.TacticsInMore
import Derived.LoopNIn
import Derived.LoopIn
import Derived.Deep.WholeRow
import Derived.Deep.RegionHeld3
import Derived.OrdersIn
import Derived.Deep.MidRow
import Derived.IntWalk
import Derived.LoopN
import Derived.OwnWalk
import Derived.Test.YtolabejbhaeddaaW00
/- The contract of reed.Window. -/
namespace Go.Proofs.Ytolabejbhaeddaa
set_option linter.all false
open Go.RowKit

/-- All that Check looks at lies within its bounds. -/
theorem rngE_ok {a b lo hi : Int} (h : rngE a b lo hi = 0) : lo ≤ a ∧ a ≤ hi ∧ lo ≤ b ∧ b ≤ hi ∧ a ≤ b := by
  unfold rngE at h
  by_cases h1 : a < lo ∨ hi < a
  · rw [if_pos h1] at h; omega
  · rw [if_neg h1] at h
    by_cases h2 : b < lo ∨ hi < b
    · rw [if_pos h2] at h; omega
    · rw [if_neg h2] at h
      by_cases h3 : b < a
      · rw [if_pos h3] at h; omega
      · omega
theorem numE_ok {a lo hi : Int} (h : numE a lo hi = 0) : lo ≤ a ∧ a ≤ hi := by
  unfold numE at h
  by_cases h1 : a < lo ∨ hi < a
  · rw [if_pos h1] at h; omega
  · omega
theorem firstE_ok : ∀ (l : List Int),firstE l = 0 → ∀ x ∈ l,x = 0
  | [],_,x,h => by simp at h
  | e :: l,h,x,hx => by
    unfold firstE at h
    by_cases h0 : e = 0
    · rw [if_pos h0] at h
      rcases List.mem_cons.1 hx with rfl | hx
      · exact h0
      · exact firstE_ok l h x hx
    · rw [if_neg h0] at h; exact absurd h h0
theorem shE_ok : ∀ (l : List R2),shE l = 0 → ∀ s ∈ l,rngE s.1 s.2 (-60) 60 = 0
  | [],_,s,h => by simp at h
  | e :: l,h,s,hs => by
    unfold shE at h
    by_cases h0 : rngE e.1 e.2 (-60) 60 = 0
    · rw [if_pos h0] at h
      rcases List.mem_cons.1 hs with rfl | hs
      · exact h0
      · exact shE_ok l h s hs
    · rw [if_neg h0] at h; exact absurd h h0

/-- A valid job's numbers, and that its ranges are none upside down. -/
structure Jb.Ok (J : Jb) : Prop where
  inn : J.In 100
  p : J.p1 ≤ J.p2
  t : J.t1 ≤ J.t2
  r : J.r1 ≤ J.r2
  u : J.u1 ≤ J.u2
  d : J.d1 ≤ J.d2
  x : J.x1 ≤ J.x2
  y : J.y1 ≤ J.y2
  s : ∀ s ∈ J.sh,s.1 ≤ s.2
theorem check_ok {J : Jb} (h : J.check = 0) : J.Ok := by
  unfold Jb.check at h
  by_cases h0 : J.head = 0
  · rw [if_pos h0] at h
    by_cases h1 : 4 < J.sh.length
    · rw [if_pos h1] at h; omega
    · rw [if_neg h1] at h
      by_cases h2 : shE J.sh = 0
      · rw [if_pos h2] at h
        have a := firstE_ok _ h0
        have b := firstE_ok _ h
        have s := shE_ok _ h2
        have a1 := rngE_ok (a _ (by simp : rngE J.p1 J.p2 (-60) 60 ∈ _))
        have a2 := rngE_ok (a _ (by simp : rngE J.t1 J.t2 0 100 ∈ _))
        have a3 := rngE_ok (a _ (by simp : rngE J.r1 J.r2 0 100 ∈ _))
        have a4 := rngE_ok (a _ (by simp : rngE J.u1 J.u2 0 12 ∈ _))
        have a5 := rngE_ok (a _ (by simp : rngE J.d1 J.d2 0 12 ∈ _))
        have a6 := rngE_ok (a _ (by simp : rngE J.x1 J.x2 0 12 ∈ _))
        have a7 := rngE_ok (a _ (by simp : rngE J.y1 J.y2 0 12 ∈ _))
        have a8 := numE_ok (a _ (by simp : numE J.le 0 100 ∈ _))
        have b1 := numE_ok (b _ (by simp : numE J.wi 0 60 ∈ _))
        have b2 := numE_ok (b _ (by simp : numE J.me 0 6 ∈ _))
        refine ⟨⟨by omega,by omega,by omega,by omega,by omega,by omega,by omega,by omega,by omega,by omega,by omega,by omega,by omega,by omega,by omega,by omega,by omega,fun q hq => ?_,by omega⟩,by omega,by omega,by omega,by omega,by omega,by omega,by omega,fun q hq => (rngE_ok (s q hq)).2.2.2.2⟩
        have := rngE_ok (s q hq)
        omega
      · rw [if_neg h2] at h; exact absurd h h2
  · rw [if_neg h0] at h; exact absurd h h0

theorem results_row_tmp {P : Program} {fn : Func} {p u : Tmp} {ty : TypeId} {fs : Array Field} (h : fn.results = #[.cell p ty,.tmp u]) (tmps : Array Value) (w : World) (g : Nat) (t : TypeId) (cs : Array Value) (v : Value)
    (hp : tmps.getD p undef = .pointer (some ⟨g,0,none⟩)) (hv : tmps.getD u undef = v) (hg : Bk w g t cs)
    (hu : P.underlying ty = some (.struct fs)) (hi : (P.info? ty).map (·.size) = some cs.size) :
    (results fn tmps).run P w = .ok (.tuple #[.agg cs,v]) w := by
  have hp' : tmps[p]?.getD undef = .pointer (some ⟨g,0,none⟩) := by simpa using hp
  have hv' : tmps[u]?.getD undef = v := by simpa using hv
  simp [results,h,hp',hv',asAddr,run_loadVar_row w g t ty cs (0,0) _ hg hu rfl hi]

end Go.Proofs.Ytolabejbhaeddaa
/- What Shortest hands back. -/
namespace Go.Proofs.Ytolabejbhaeddaa
set_option linter.all false
open Go.RowKit
def TunOK : Prop := ∀ w : World,Calls Try.prog 8 #[] w fun e w' => e = .returned (.bool true) ∧ Below w.heap.size w w'
end Go.Proofs.Ytolabejbhaeddaa
/- What the tuner's memory is good for: a map from what is known to the best move. -/
namespace Go.Proofs.Ytolabejbhaeddaa
set_option linter.all false
open Go.RowKit Go.ChangeShapes Go.WideShapes Go.MapKept
open Go.WideElems (Fit rd rg pl rd_key rd_val rg_of)

theorem laidOut : laidOutB Try.prog = true := by kernel_rfl
end Go.Proofs.Ytolabejbhaeddaa
/- The iterator of reed.readings. -/
namespace Go.Proofs.Ytolabejbhaeddaa
set_option linter.all false
open Go.RowKit Go.Shelf

attribute [local go_sem] Oper.semAt_some

end Go.Proofs.Ytolabejbhaeddaa
/- The contract of work.spoiled (package reed). -/
namespace Go.Proofs.Ytolabejbhaeddaa
set_option linter.all false
open Go.RowKit

set_option maxHeartbeats 1000000 in
theorem spoiled_any (J : Jb) (s : Value) (w : World) :
    Calls Try.prog 62 #[.agg (jobC J s)] w fun e w' => e = .returned (.int .i64 (spoilI J.le J.tg)) ∧ w.alloc (.cells (jobC J s) 104) = w' := by
  by_cases h1 : J.t2 < J.le
  · have H : Hid (spoilI J.le J.tg = 1) := by show spoilI J.le J.tg = 1; simp [spoilI,Jb.tg,h1]
    go_enter Try.func62,Try.ntmps62
    go_wp2
    go_ret
    exact ⟨by rw [H.out]; rfl,rfl⟩
  · by_cases h2 : J.r2 < J.le
    · have H : Hid (spoilI J.le J.tg = 1) := by show spoilI J.le J.tg = 1; simp [spoilI,Jb.tg,h2]
      go_enter Try.func62,Try.ntmps62
      go_wp2
      go_ret
      exact ⟨by rw [H.out]; rfl,rfl⟩
    · by_cases h3 : J.le ≤ J.t1
      · by_cases h4 : J.le ≤ J.r1
        · have H : Hid (spoilI J.le J.tg = 2) := by show spoilI J.le J.tg = 2; simp [spoilI,Jb.tg,h1,h2,h3,h4]
          go_enter Try.func62,Try.ntmps62
          go_wp2
          go_ret
          exact ⟨by rw [H.out]; rfl,rfl⟩
        · have H : Hid (spoilI J.le J.tg = 3) := by show spoilI J.le J.tg = 3; simp [spoilI,Jb.tg,h1,h2,h4]
          go_enter Try.func62,Try.ntmps62
          go_wp2
          go_ret
          exact ⟨by rw [H.out]; rfl,rfl⟩
      · have H : Hid (spoilI J.le J.tg = 3) := by show spoilI J.le J.tg = 3; simp [spoilI,Jb.tg,h1,h2,h3]
        go_enter Try.func62,Try.ntmps62
        go_wp2
        go_ret
        exact ⟨by rw [H.out]; rfl,rfl⟩
end Go.Proofs.Ytolabejbhaeddaa
/- Contracts of reed.passes and work.fine. -/
namespace Go.Proofs.Ytolabejbhaeddaa
set_option linter.all false
open Go.RowKit

theorem holds_any (a b c d : Int) (w : World) :
    Calls Try.prog 78 #[.agg #[.int .i64 a,.int .i64 b],.agg #[.int .i64 c,.int .i64 d]] w fun e w' => e = .returned (.bool (decide (a ≤ c ∧ d ≤ b))) ∧ (w.alloc (.cells #[.int .i64 a,.int .i64 b] 23)).alloc (.cells #[.int .i64 c,.int .i64 d] 23) = w' := by
  by_cases h : a ≤ c ∧ d ≤ b
  · rw [decide_eq_true h]; exact holds_yes a b c d h w
  · rw [decide_eq_false h]; exact holds_no a b c d h w

set_option maxHeartbeats 1000000 in
set_option maxRecDepth 100000 in
theorem passes_any (J : Jb) (a : Option Addr) (n c : Nat) (w : World) (hJ : J.In 1000) (hn : n = J.sh.length) (h : Rg w w.heap.size a J.sh) :
    Calls Try.prog 64 #[.agg (jobC J (.slice a n c))] w fun e w' => e = .returned (.int .i64 (passI J.wi J.sh J.p1 J.p2)) ∧ Below w.heap.size w w' := by
  have HJ : Hid (J.In 1000) := hJ
  have Hn : Hid (n = J.sh.length) := hn
  have Hh : Hid (Rg w w.heap.size a J.sh) := h
  clear hJ hn h
  have b0 : Bk (w.alloc (.cells (jobC J (.slice a n c)) 30)) w.heap.size 30 (jobC J (.slice a n c)) := Bk.new w _ _
  by_cases h1 : (win J.wi J.sh).1 ≤ J.p1 ∧ J.p2 ≤ (win J.wi J.sh).2
  · have He : Hid (passI J.wi J.sh J.p1 J.p2 = 1) := by show passI J.wi J.sh J.p1 J.p2 = 1; unfold passI; rw [if_pos h1]
    have hd : decide ((win J.wi J.sh).1 ≤ J.p1 ∧ J.p2 ≤ (win J.wi J.sh).2) = true := decide_eq_true h1
    clear h1
    go_enter Try.func64,Try.ntmps64
    go_wp2_with (refine wpList_load_row rfl 30 _ rfl w.heap.size rfl _ (jobC J (.slice a n c)) _ _ b0 Try.underlying30 rfl szJob ?_)
    refine (windows_any J a n c _ HJ.out Hn.out (Hh.out.up ((Below.refl _ _).alloc (Nat.le_refl _) _))).mono ?_
    rintro e w1 ⟨rfl,hb⟩
    have hz := hb.size
    simp only [World.size_alloc] at hz
    have hz' : w.heap.size < w1.heap.size := by omega
    have hz1 : w.heap.size < w1.heap.size + 1 := by omega
    have hz2 : w.heap.size < w1.heap.size + 1 + 1 := by omega
    have hz3 : w.heap.size < w1.heap.size + 1 + 1 + 1 := by omega
    have hz4 : w.heap.size < w1.heap.size + 1 + 1 + 1 + 1 := by omega
    have k0 := b0.below hb (by simp)
    have hB1 : Below w.heap.size w w1 := ((Below.refl _ _).alloc (Nat.le_refl _) _).trans (hb.mono (by simp))
    clear hb b0
    have c0 := k0.at_ 0 _ rfl
    have c1 := k0.at_ 1 _ rfl
    go_wp2_with (go_at_call 78; refine (holds_any _ _ _ _ _).mono ?_; rintro e w2 ⟨rfl,rfl⟩)
    go_ret
    exact ⟨by rw [He.out]; rfl,(((hB1.alloc (by omega) _).alloc (by simp; omega) _).alloc (by simp; omega) _).alloc (by simp; omega) _⟩
  · have hd : decide ((win J.wi J.sh).1 ≤ J.p1 ∧ J.p2 ≤ (win J.wi J.sh).2) = false := decide_eq_false h1
    rcases Bool.eq_false_or_eq_true (decide ((meetL ((pos J.wi J.sh).1,(pos J.wi J.sh).2) [(J.p1,J.p2)]).2 < (meetL ((pos J.wi J.sh).1,(pos J.wi J.sh).2) [(J.p1,J.p2)]).1)) with hv | hv
    · have He : Hid (passI J.wi J.sh J.p1 J.p2 = 2) := by
        show passI J.wi J.sh J.p1 J.p2 = 2
        unfold passI
        rw [if_neg h1]
        have hv' := hv
        simp only [decide_eq_true_eq] at hv'
        have h2 : (meet2 (pos J.wi J.sh) (J.p1,J.p2)).2 < (meet2 (pos J.wi J.sh) (J.p1,J.p2)).1 := hv'
        rw [if_pos h2]
      clear h1
      go_enter Try.func64,Try.ntmps64
      go_wp2_with (refine wpList_load_row rfl 30 _ rfl w.heap.size rfl _ (jobC J (.slice a n c)) _ _ b0 Try.underlying30 rfl szJob ?_)
      refine (windows_any J a n c _ HJ.out Hn.out (Hh.out.up ((Below.refl _ _).alloc (Nat.le_refl _) _))).mono ?_
      rintro e w1 ⟨rfl,hb⟩
      have hz := hb.size
      simp only [World.size_alloc] at hz
      have hz' : w.heap.size < w1.heap.size := by omega
      have hz1 : w.heap.size < w1.heap.size + 1 := by omega
      have hz2 : w.heap.size < w1.heap.size + 1 + 1 := by omega
      have hz3 : w.heap.size < w1.heap.size + 1 + 1 + 1 := by omega
      have hz4 : w.heap.size < w1.heap.size + 1 + 1 + 1 + 1 := by omega
      have k0 := b0.below hb (by simp)
      have hB1 : Below w.heap.size w w1 := ((Below.refl _ _).alloc (Nat.le_refl _) _).trans (hb.mono (by simp))
      clear hb b0
      have c0 := k0.at_ 0 _ rfl
      have c1 := k0.at_ 1 _ rfl
      go_wp2_with (first | (go_at_call 78; refine (holds_any _ _ _ _ _).mono ?_; rintro e w2 ⟨rfl,rfl⟩))
      refine (meet_any _ _ _ _ _ [(J.p1,J.p2)] _ rfl (by simp) ?hrg).mono ?_
      case hrg => exact Rg.of_bk [(J.p1,J.p2)] (Bk.newAt _ _ _ _ (by simp)) (by simp)
      rintro e w3 ⟨rfl,hb3⟩
      go_wp2_with (go_at_call 66; refine (empty_any _ _ _).mono ?_; rintro e w4 ⟨rfl,rfl⟩)
      go_ret
      refine ⟨by rw [He.out]; rfl,?_⟩
      exact ((((((hB1.alloc (by omega) _).alloc (by simp; omega) _).alloc (by simp; omega) _).alloc (by simp; omega) _).alloc (by simp; omega) _).trans (hb3.mono (by simp; omega))).alloc (by have := hb3.size; simp at this; omega) _
    · have He : Hid (passI J.wi J.sh J.p1 J.p2 = 3) := by
        show passI J.wi J.sh J.p1 J.p2 = 3
        unfold passI
        rw [if_neg h1]
        have hv' := hv
        simp only [decide_eq_false_iff_not] at hv'
        have h2 : ¬ (meet2 (pos J.wi J.sh) (J.p1,J.p2)).2 < (meet2 (pos J.wi J.sh) (J.p1,J.p2)).1 := hv'
        rw [if_neg h2]
      clear h1
      go_enter Try.func64,Try.ntmps64
      go_wp2_with (refine wpList_load_row rfl 30 _ rfl w.heap.size rfl _ (jobC J (.slice a n c)) _ _ b0 Try.underlying30 rfl szJob ?_)
      refine (windows_any J a n c _ HJ.out Hn.out (Hh.out.up ((Below.refl _ _).alloc (Nat.le_refl _) _))).mono ?_
      rintro e w1 ⟨rfl,hb⟩
      have hz := hb.size
      simp only [World.size_alloc] at hz
      have hz' : w.heap.size < w1.heap.size := by omega
      have hz1 : w.heap.size < w1.heap.size + 1 := by omega
      have hz2 : w.heap.size < w1.heap.size + 1 + 1 := by omega
      have hz3 : w.heap.size < w1.heap.size + 1 + 1 + 1 := by omega
      have hz4 : w.heap.size < w1.heap.size + 1 + 1 + 1 + 1 := by omega
      have k0 := b0.below hb (by simp)
      have hB1 : Below w.heap.size w w1 := ((Below.refl _ _).alloc (Nat.le_refl _) _).trans (hb.mono (by simp))
      clear hb b0
      have c0 := k0.at_ 0 _ rfl
      have c1 := k0.at_ 1 _ rfl
      go_wp2_with (first | (go_at_call 78; refine (holds_any _ _ _ _ _).mono ?_; rintro e w2 ⟨rfl,rfl⟩))
      refine (meet_any _ _ _ _ _ [(J.p1,J.p2)] _ rfl (by simp) ?hrg).mono ?_
      case hrg => exact Rg.of_bk [(J.p1,J.p2)] (Bk.newAt _ _ _ _ (by simp)) (by simp)
      rintro e w3 ⟨rfl,hb3⟩
      go_wp2_with (go_at_call 66; refine (empty_any _ _ _).mono ?_; rintro e w4 ⟨rfl,rfl⟩)
      go_ret
      refine ⟨by rw [He.out]; rfl,?_⟩
      exact ((((((hB1.alloc (by omega) _).alloc (by simp; omega) _).alloc (by simp; omega) _).alloc (by simp; omega) _).alloc (by simp; omega) _).trans (hb3.mono (by simp; omega))).alloc (by have := hb3.size; simp at this; omega) _
end Go.Proofs.Ytolabejbhaeddaa
/- The contract of work.after (package reed). -/
namespace Go.Proofs.Ytolabejbhaeddaa
set_option linter.all false
open Go.RowKit

theorem afterS_snoc (J : Jb) (t : Tg) (l : List Int) (x : Int) : afterS J t (l ++ [x]) = strk J (afterS J t l) x := by simp [afterS]
theorem afterS_in (J : Jb) (hJ : J.In 1000) : ∀ (l : List Int) (t : Tg) (n : Int),t.In n → (afterS J t l).In (n + 12 * l.length)
  | [],t,n,h => by simpa [afterS] using h
  | x :: l,t,n,h => by
    have h1 := afterS_in J hJ l (strk J t x) (n + 12) (strk_in J t x n h hJ)
    have e : afterS J t (x :: l) = afterS J (strk J t x) l := rfl
    rw [e]
    refine h1.mono ?_
    simp only [List.length_cons]
    omega

set_option maxHeartbeats 1000000 in
set_option maxRecDepth 100000 in
theorem after_any (J : Jb) (sa : Option Addr) (sn sc : Nat) (a : Option Addr) (n c : Nat) (l : List Int) (w : World) (h : J.In 200) (hn : n = l.length) (hm : n ≤ 6) (hl : ∀ x ∈ l,x = 1 ∨ x = 2) (hr : Is w w.heap.size a l) :
    Calls Try.prog 72 #[.agg (jobC J (.slice sa sn sc)),.slice a n c] w (AfterEnd J l (.slice sa sn sc) w) := by
  have Hn : Hid (n = l.length) := hn
  clear hn
  have Hh : Hid (Is w w.heap.size a l) := hr
  clear hr
  have HJ : Hid (J.In 200) := h
  clear h
  have Hl : Hid (∀ x ∈ l,x = 1 ∨ x = 2) := hl
  clear hl
  go_enter Try.func72,Try.ntmps72
  go_wp2_with fail
  go_loopw [9] (fun i wr => ∃ (k : Nat) (K : Jb),k ≤ n ∧ i = .int .i64 k ∧ K = J.setTg (afterS J J.tg (l.take k)) ∧ Bk wr w.heap.size 104 (jobC K (.slice sa sn sc)) ∧ Bk wr (w.heap.size + 1) 104 #[.int .i64 0,.int .i64 0,.int .i64 0,.int .i64 0,.int .i64 0,.int .i64 0,.int .i64 0,.int .i64 0,.int .i64 0,.int .i64 0,.int .i64 0,.int .i64 0,.int .i64 0,.int .i64 0,.int .i64 0,.slice none 0 0,.int .i64 0,.int .i64 0] ∧ Below w.heap.size w wr) (fun i _ => n - (intOf i).toNat)
  case atStart =>
    refine ⟨0,J,Nat.zero_le _,rfl,rfl,(Bk.new w _ _).alloc _,?_,((Below.refl _ _).alloc (Nat.le_refl _) _).alloc (by simp) _⟩
    have h1 := Bk.new (w.alloc (.cells (jobC J (.slice sa sn sc)) 104)) 104 #[.int .i64 0,.int .i64 0,.int .i64 0,.int .i64 0,.int .i64 0,.int .i64 0,.int .i64 0,.int .i64 0,.int .i64 0,.int .i64 0,.int .i64 0,.int .i64 0,.int .i64 0,.int .i64 0,.int .i64 0,.slice none 0 0,.int .i64 0,.int .i64 0]
    rw [World.size_alloc] at h1
    exact h1
  case round =>
    obtain ⟨k,K,hk,rfl,hK,hj,ho,hB⟩ := hrel
    have HK : Hid (K = J.setTg (afterS J J.tg (l.take k))) := hK
    clear hK
    have hz := hB.size
    have hl1 := hj.lt
    have hl2 := ho.lt
    by_cases hlt : k < n
    · have hkl : k < l.length := by rw [← Hn.out]; exact hlt
      obtain ⟨b,off,rfl,hbl,e0⟩ := Hh.out k l[k] (List.getElem?_eq_getElem hkl)
      replace e0 := (hB.cell (p := ⟨b,off + k,none⟩) hbl).trans e0
      have hbl' : b < wr.heap.size := by omega
      have HKin : Hid (K.In 1000) := by
        show K.In 1000
        have h1 := afterS_in J (HJ.out.mono (by decide)) (l.take k) J.tg 200 HJ.out.tg
        rw [HK.out]
        refine HJ.out.setTg (h1.mono ?_)
        have := List.length_take_le k l
        omega
      go_wp2_with (refine wpList_load_row rfl 104 _ rfl w.heap.size rfl _ (jobC K (.slice sa sn sc)) _ _ hj Try.underlying104 rfl szWork ?_)
      refine (stroked_any K (.slice sa sn sc) _ (Hl.out _ (List.getElem_mem hkl)) _ HKin.out).mono ?_
      rintro e w1 ⟨rfl,hb⟩
      have hz1 := hb.size
      have hj1 := hj.below hb hl1
      have ho1 := ho.below hb hl2
      clear e0
      have d0 := hj1.at_ 0 _ rfl
      have d1 := hj1.at_ 1 _ rfl
      have d2 := hj1.at_ 2 _ rfl
      have d3 := hj1.at_ 3 _ rfl
      have d4 := hj1.at_ 4 _ rfl
      have d5 := hj1.at_ 5 _ rfl
      have f0 := hj1.free 0
      have f1 := hj1.free 1
      have f2 := hj1.free 2
      have f3 := hj1.free 3
      have f4 := hj1.free 4
      have f5 := hj1.free 5
      go_wp2
      go_roundw
      case rel =>
        refine ⟨k + 1,K.setTg (strk K K.tg l[k]),by omega,by go_num,?_,((((((hj1.put 0 _).put 1 _).put 2 _).put 3 _).put 4 _).put 5 _),?_,?_⟩
        · rw [take_snoc l k hkl,afterS_snoc,HK.out]; rfl
        · iterate 6 (refine Bk.other ?_ (by simp) _)
          exact ho1
        · iterate 6 (refine Below.setCell ?_ (by simp) _)
          exact hB.trans (hb.mono hz)
      case measure => simp [intOf]; omega
    · obtain rfl : k = n := by omega
      go_wp2_with (first | (refine wpList_load_row rfl 104 _ rfl w.heap.size rfl _ (jobC K (.slice sa sn sc)) _ _ hj Try.underlying104 rfl szWork ?_) | (refine wpList_store_row rfl 104 _ _ rfl (w.heap.size + 1) (jobC K (.slice sa sn sc)) rfl rfl _ _ ho szWork rfl (oneJob _ _ _ _) ?_))
      have e : l.take k = l := by rw [Hn.out]; exact List.take_length
      refine bodyPost_ret (v := .agg (jobC K (.slice sa sn sc))) (results_cell_row Try.results72 _ _ _ _ _ _ _ rfl (ho.row _) Try.underlying104 rfl szWork) rfl ⟨by rw [HK.out,e],?_⟩
      exact below_setRow hB (by simp) _
end Go.Proofs.Ytolabejbhaeddaa
/- The tuner's best move: the closure of reed.player. -/
namespace Go.Proofs.Ytolabejbhaeddaa
set_option linter.all false
open Go.RowKit Go.Shelf

attribute [local go_sem] Oper.semAt_some

end Go.Proofs.Ytolabejbhaeddaa
/- The tuner's best move, where a stroke is left: what is remembered, and what is reckoned. -/
namespace Go.Proofs.Ytolabejbhaeddaa
set_option linter.all false
open Go.RowKit Go.Shelf

attribute [local go_sem] Oper.semAt_some

end Go.Proofs.Ytolabejbhaeddaa
/- Contracts of reed.checkStrokes, reed.filed and reed.After. -/
namespace Go.Proofs.Ytolabejbhaeddaa
set_option linter.all false
open Go.RowKit

def kindE : List Int → Int
  | [] => 0
  | x :: l => if x = 1 ∨ x = 2 then kindE l else 8
def strokesE (l : List Int) : Int := if 6 < l.length then 6 else kindE l
theorem kindE_ok : ∀ (l : List Int),kindE l = 0 → ∀ x ∈ l,x = 1 ∨ x = 2
  | [],_,x,h => by simp at h
  | y :: l,h,x,hx => by
    unfold kindE at h
    by_cases h0 : y = 1 ∨ y = 2
    · rw [if_pos h0] at h
      rcases List.mem_cons.1 hx with rfl | hx
      · exact h0
      · exact kindE_ok l h x hx
    · rw [if_neg h0] at h; omega

set_option maxHeartbeats 1000000 in
theorem checkStrokes_any (a : Option Addr) (n c : Nat) (l : List Int) (w : World) (hn : n = l.length) (hm : n ≤ 9223372036854775807) (h : Is w w.heap.size a l) :
    Calls Try.prog 85 #[.slice a n c] w fun e w' => e = .returned (.int .i64 (strokesE l)) ∧ w = w' := by
  have Hn : Hid (n = l.length) := hn
  have Hh : Hid (Is w w.heap.size a l) := h
  clear hn h
  by_cases h6 : 6 < n
  · have He : Hid (strokesE l = 6) := by show strokesE l = 6; unfold strokesE; rw [if_pos (by rw [← Hn.out]; exact h6)]
    go_enter Try.func85,Try.ntmps85
    go_wp2
    go_ret
    exact ⟨ret_i (by rw [He.out]),rfl⟩
  · have He : Hid (strokesE l = kindE l) := by show strokesE l = kindE l; unfold strokesE; rw [if_neg (by rw [← Hn.out]; exact h6)]
    go_enter Try.func85,Try.ntmps85
    go_wp2
    go_loop [10] (fun i => ∃ k : Nat,k ≤ n ∧ i = .int .i64 k ∧ Hid (kindE l = kindE (l.drop k))) (fun i => n - (intOf i).toNat)
    case atStart => exact ⟨0,Nat.zero_le _,rfl,hidMk rfl⟩
    case round =>
      obtain ⟨k,hk,rfl,Hf⟩ := hrel
      by_cases hlt : k < n
      · have hkl : k < l.length := by rw [← Hn.out]; exact hlt
        obtain ⟨b,off,rfl,hbl,e0⟩ := Hh.out k l[k] (List.getElem?_eq_getElem hkl)
        obtain ⟨x,Hx⟩ : ∃ x,Hid (x = l[k]) := ⟨_,hidMk rfl⟩
        rw [← Hx.out] at e0
        have Hd : Hid (l.drop k = x :: l.drop (k + 1)) := by show _ = _; rw [Hx.out]; exact List.drop_eq_getElem_cons hkl
        by_cases h1 : x = 1
        · have h1b : (x == 1) = true := by simp [h1]
          have Hi : Hid (x = 1 ∨ x = 2) := .inl h1
          clear h1
          go_wp2
          go_round
          case rel => exact ⟨k + 1,by omega,by go_num,hidMk (by rw [Hf.out,Hd.out,kindE,if_pos Hi.out])⟩
          case measure => simp [intOf]; omega
        · have h1b : (x == 1) = false := by simp [h1]
          by_cases h2 : x = 2
          · have h2b : (x == 2) = true := by simp [h2]
            have Hi : Hid (x = 1 ∨ x = 2) := .inr h2
            clear h1 h2
            go_wp2
            go_round
            case rel => exact ⟨k + 1,by omega,by go_num,hidMk (by rw [Hf.out,Hd.out,kindE,if_pos Hi.out])⟩
            case measure => simp [intOf]; omega
          · have h2b : (x == 2) = false := by simp [h2]
            have Hi : Hid (¬ (x = 1 ∨ x = 2)) := by show ¬ _; omega
            clear h1 h2
            go_wp2
            go_ret
            exact ⟨ret_i (by rw [He.out,Hf.out,Hd.out,kindE,if_neg Hi.out]),rfl⟩
      · obtain rfl : k = n := by omega
        go_wp2
        go_ret
        exact ⟨ret_i (by rw [He.out,Hf.out,List.drop_of_length_le (by rw [← Hn.out]; omega)]; rfl),rfl⟩

/-- The error of a job and strokes. -/
def filedE (J : Jb) (l : List Int) : Int := if J.check = 0 then strokesE l else J.check
def zeroJ : Jb := ⟨0,0,0,0,0,0,0,0,0,0,0,0,0,0,0,0,0,[]⟩
/-- What 'filed' hands back: the work after the strokes, or none. -/
def FiledEnd (J : Jb) (l : List Int) (a : Option Addr) (n c : Nat) (w : World) (e : Ending) (w' : World) : Prop :=
  (if filedE J l = 0 then e = .returned (.tuple #[.agg (jobC (J.setTg (afterS J J.tg l)) (.slice a n c)),.int .i64 0])
    else e = .returned (.tuple #[.agg (jobC zeroJ (.slice none 0 0)),.int .i64 (filedE J l)])) ∧ Below w.heap.size w w'

theorem filed_first (J : Jb) (l : List Int) : firstE [J.check,strokesE l] = filedE J l := by
  unfold filedE firstE firstE firstE
  by_cases h : J.check = 0
  · rw [if_pos h,if_pos h]
    by_cases h2 : strokesE l = 0
    · rw [if_pos h2,h2]
    · rw [if_neg h2]
  · rw [if_neg h,if_neg h]

set_option maxHeartbeats 1000000 in
set_option maxRecDepth 100000 in
theorem filed_any (J : Jb) (a : Option Addr) (n c : Nat) (b : Option Addr) (m d : Nat) (l : List Int) (w : World) (hn : n = J.sh.length) (hm : n ≤ 9223372036854775807) (h : Rg w w.heap.size a J.sh)
    (hmn : m = l.length) (hmm : m ≤ 9223372036854775807) (hl : Is w w.heap.size b l) :
    Calls Try.prog 60 #[.agg (jobC J (.slice a n c)),.slice b m d] w (FiledEnd J l a n c w) := by
  have Hn : Hid (n = J.sh.length) := hn
  have Hh : Hid (Rg w w.heap.size a J.sh) := h
  have Hm : Hid (m = l.length) := hmn
  have Hl : Hid (Is w w.heap.size b l) := hl
  clear hn h hmn hl
  have b0 : Bk ((w.alloc (.cells (jobC J (.slice a n c)) 30)).alloc (.cells #[.int .i64 0,.int .i64 0,.int .i64 0,.int .i64 0,.int .i64 0,.int .i64 0,.int .i64 0,.int .i64 0,.int .i64 0,.int .i64 0,.int .i64 0,.int .i64 0,.int .i64 0,.int .i64 0,.int .i64 0,.slice none 0 0,.int .i64 0,.int .i64 0] 104)) w.heap.size 30 (jobC J (.slice a n c)) := (Bk.new w _ _).alloc _
  have b1 : Bk ((w.alloc (.cells (jobC J (.slice a n c)) 30)).alloc (.cells #[.int .i64 0,.int .i64 0,.int .i64 0,.int .i64 0,.int .i64 0,.int .i64 0,.int .i64 0,.int .i64 0,.int .i64 0,.int .i64 0,.int .i64 0,.int .i64 0,.int .i64 0,.int .i64 0,.int .i64 0,.slice none 0 0,.int .i64 0,.int .i64 0] 104)) (w.heap.size + 1) 104 #[.int .i64 0,.int .i64 0,.int .i64 0,.int .i64 0,.int .i64 0,.int .i64 0,.int .i64 0,.int .i64 0,.int .i64 0,.int .i64 0,.int .i64 0,.int .i64 0,.int .i64 0,.int .i64 0,.int .i64 0,.slice none 0 0,.int .i64 0,.int .i64 0] := Bk.newAt _ _ _ _ (by simp)
  have hW : Below w.heap.size w ((w.alloc (.cells (jobC J (.slice a n c)) 30)).alloc (.cells #[.int .i64 0,.int .i64 0,.int .i64 0,.int .i64 0,.int .i64 0,.int .i64 0,.int .i64 0,.int .i64 0,.int .i64 0,.int .i64 0,.int .i64 0,.int .i64 0,.int .i64 0,.int .i64 0,.int .i64 0,.slice none 0 0,.int .i64 0,.int .i64 0] 104)) := ((Below.refl _ _).alloc (Nat.le_refl _) _).alloc (by simp) _
  by_cases hc : filedE J l = 0
  · have hcb : (firstE [J.check,strokesE l] != 0) = false := by rw [filed_first]; simp [hc]
    have Hc := hidMk hc
    have hc0 : J.check = 0 := by
      by_cases h0 : J.check = 0
      · exact h0
      · unfold filedE at hc; rw [if_neg h0] at hc; exact absurd hc h0
    have hs0 : strokesE l = 0 := by unfold filedE at hc; rw [if_pos hc0] at hc; exact hc
    have HJ := hidMk ((check_ok hc0).inn.mono (by decide : (100 : Int) ≤ 200))
    have Hs := hidMk hs0
    have h6 : m ≤ 6 := by
      unfold strokesE at hs0
      rw [Hm.out]
      by_cases h6 : 6 < l.length
      · rw [if_pos h6] at hs0; omega
      · omega
    have Hk : Hid (∀ x ∈ l,x = 1 ∨ x = 2) := by
      show ∀ x ∈ l,x = 1 ∨ x = 2
      unfold strokesE at hs0
      by_cases h6 : 6 < l.length
      · rw [if_pos h6] at hs0; omega
      · rw [if_neg h6] at hs0; exact kindE_ok l hs0
    clear hc hc0 hs0
    go_enter Try.func60,Try.ntmps60
    go_wp2_with (refine wpList_load_row rfl 30 _ rfl w.heap.size rfl _ (jobC J (.slice a n c)) _ _ b0 Try.underlying30 rfl szJob ?_)
    refine (check_any J a n c _ Hn.out hm (Hh.out.up hW)).mono ?_
    rintro e w1 ⟨rfl,hb1⟩
    have hz1 := hb1.size
    simp only [World.size_alloc] at hz1
    have k0 := b0.below hb1 (by simp; omega)
    have k1 := b1.below hb1 (by simp)
    have hB1 : Below w.heap.size w w1 := hW.trans (hb1.mono (by simp; omega))
    clear hb1 b0 b1 hW
    go_wp2_with (first | (go_at_call 85; refine (checkStrokes_any _ _ _ l _ Hm.out hmm (Hl.out.up hB1)).mono ?_; rintro e w2 ⟨rfl,rfl⟩) | (go_at_call 74; refine (first_any _ _ _ [J.check,strokesE l] _ rfl (by simp) (Is.of_bk _ (Bk.new _ _ _) (by simp))).mono ?_; rintro e w2 ⟨rfl,rfl⟩) | (refine wpList_load_row rfl 30 _ rfl w.heap.size rfl _ (jobC J (.slice a n c)) _ _ (k0.alloc _) Try.underlying30 rfl szJob ?_))
    refine (after_any J a n c b m d l _ HJ.out Hm.out h6 Hk.out (Hl.out.up (hB1.alloc (by omega) _))).mono ?_
    rintro e w3 ⟨rfl,hb3⟩
    have hz3 := hb3.size
    simp only [World.size_alloc] at hz3
    have q1 := (k1.alloc _).below hb3 (by simp; omega)
    have hB3 : Below w.heap.size w w3 := (hB1.alloc (by omega) _).trans (hb3.mono (by simp; omega))
    clear hb3 k0 k1 hB1
    go_wp2_with (refine wpList_store_row rfl 104 _ _ rfl (w.heap.size + 1) (jobC (J.setTg (afterS J J.tg l)) (.slice a n c)) rfl rfl _ _ q1 szWork rfl (oneJob _ _ _ _) ?_)
    refine bodyPost_ret (results_row_tmp Try.results60 _ _ _ _ _ _ rfl rfl (q1.row _) Try.underlying104 szWork) rfl ⟨?_,below_setRow hB3 (by simp) _⟩
    rw [if_pos Hc.out]
    rfl
  · have hcb : (firstE [J.check,strokesE l] != 0) = true := by rw [filed_first]; simpa using hc
    have Hc := hidMk hc
    clear hc
    go_enter Try.func60,Try.ntmps60
    go_wp2_with (refine wpList_load_row rfl 30 _ rfl w.heap.size rfl _ (jobC J (.slice a n c)) _ _ b0 Try.underlying30 rfl szJob ?_)
    refine (check_any J a n c _ Hn.out hm (Hh.out.up hW)).mono ?_
    rintro e w1 ⟨rfl,hb1⟩
    have hz1 := hb1.size
    simp only [World.size_alloc] at hz1
    have k0 := b0.below hb1 (by simp; omega)
    have k1 := b1.below hb1 (by simp)
    have hB1 : Below w.heap.size w w1 := hW.trans (hb1.mono (by simp; omega))
    clear hb1 b0 b1 hW
    have q1 := k1.alloc (.cells #[.int .i64 J.check,.int .i64 (strokesE l)] 39)
    go_wp2_with (first | (go_at_call 85; refine (checkStrokes_any _ _ _ l _ Hm.out hmm (Hl.out.up hB1)).mono ?_; rintro e w2 ⟨rfl,rfl⟩) | (go_at_call 74; refine (first_any _ _ _ [J.check,strokesE l] _ rfl (by simp) (Is.of_bk _ (Bk.new _ _ _) (by simp))).mono ?_; rintro e w2 ⟨rfl,rfl⟩) | (refine wpList_store_row rfl 104 _ _ rfl (w.heap.size + 1) (jobC zeroJ (.slice none 0 0)) rfl rfl _ _ q1 szWork rfl (oneJob _ _ _ _) ?_))
    refine bodyPost_ret (results_row_tmp Try.results60 _ _ _ _ _ _ rfl rfl (q1.row _) Try.underlying104 szWork) rfl ⟨?_,below_setRow (hB1.alloc (by omega) _) (by simp) _⟩
    rw [if_neg Hc.out,← filed_first]
    rfl

/-- What After answers. -/
def AfterAns (J : Jb) (l : List Int) (w : World) (e : Ending) (w' : World) : Prop :=
  (if filedE J l = 0 then e = .returned (.tuple #[.agg (tonC (afterS J J.tg l)),.int .i64 0])
    else e = .returned (.tuple #[.agg (tonC zeroJ.tg),.int .i64 (filedE J l)])) ∧ Below w.heap.size w w'
end Go.Proofs.Ytolabejbhaeddaa
/- The contract of reed.After. -/
namespace Go.Proofs.Ytolabejbhaeddaa
set_option linter.all false
open Go.RowKit

set_option maxHeartbeats 1000000 in
set_option maxRecDepth 100000 in
theorem afterF_any (J : Jb) (a : Option Addr) (n c : Nat) (b : Option Addr) (m d : Nat) (l : List Int) (w : World) (hn : n = J.sh.length) (hm : n ≤ 9223372036854775807) (h : Rg w w.heap.size a J.sh)
    (hmn : m = l.length) (hmm : m ≤ 9223372036854775807) (hl : Is w w.heap.size b l) :
    Calls Try.prog 25 #[.agg (jobC J (.slice a n c)),.slice b m d] w (AfterAns J l w) := by
  have Hn : Hid (n = J.sh.length) := hn
  have Hh : Hid (Rg w w.heap.size a J.sh) := h
  have Hm : Hid (m = l.length) := hmn
  have Hl : Hid (Is w w.heap.size b l) := hl
  clear hn h hmn hl
  have b0 : Bk ((w.alloc (.cells (jobC J (.slice a n c)) 30)).alloc (.cells #[.int .i64 0,.int .i64 0,.int .i64 0,.int .i64 0,.int .i64 0,.int .i64 0] 25)) w.heap.size 30 (jobC J (.slice a n c)) := (Bk.new w _ _).alloc _
  have b1 : Bk ((w.alloc (.cells (jobC J (.slice a n c)) 30)).alloc (.cells #[.int .i64 0,.int .i64 0,.int .i64 0,.int .i64 0,.int .i64 0,.int .i64 0] 25)) (w.heap.size + 1) 25 #[.int .i64 0,.int .i64 0,.int .i64 0,.int .i64 0,.int .i64 0,.int .i64 0] := Bk.newAt _ _ _ _ (by simp)
  have hW : Below w.heap.size w ((w.alloc (.cells (jobC J (.slice a n c)) 30)).alloc (.cells #[.int .i64 0,.int .i64 0,.int .i64 0,.int .i64 0,.int .i64 0,.int .i64 0] 25)) := ((Below.refl _ _).alloc (Nat.le_refl _) _).alloc (by simp) _
  by_cases hc : filedE J l = 0
  · have Hc := hidMk hc
    clear hc
    go_enter Try.func25,Try.ntmps25
    go_wp2_with (refine wpList_load_row rfl 30 _ rfl w.heap.size rfl _ (jobC J (.slice a n c)) _ _ b0 Try.underlying30 rfl szJob ?_)
    refine (filed_any J a n c b m d l _ Hn.out hm (Hh.out.up hW) Hm.out hmm (Hl.out.up hW)).mono ?_
    rintro e w1 ⟨he,hb1⟩
    rw [if_pos Hc.out] at he
    subst he
    have hz1 := hb1.size
    simp only [World.size_alloc] at hz1
    have k1 := b1.below hb1 (by simp)
    have hB1 : Below w.heap.size w w1 := hW.trans (hb1.mono (by simp; omega))
    clear hb1 b0 b1 hW
    obtain ⟨T,hT⟩ : ∃ T,afterS J J.tg l = T := ⟨_,rfl⟩
    have HT := hidMk hT
    rw [hT]
    clear hT
    have q1 := k1.alloc (.cells (jobC (J.setTg T) (.slice a n c)) 104)
    go_wp2_with (first | (refine wpList_store_row rfl 104 _ _ rfl w1.heap.size (jobC (J.setTg T) (.slice a n c)) rfl rfl _ _ (Bk.new _ _ _) szWork rfl (oneJob _ _ _ _) ?_; rw [World.setRow_alloc_new]) | refine wpList_store_row rfl 25 _ _ rfl (w.heap.size + 1) (tonC T) rfl rfl _ _ q1 szTongue rfl (oneTon _) ?_)
    refine bodyPost_ret (results_row_tmp Try.results25 _ _ _ _ _ _ rfl rfl (q1.row _) Try.underlying25 szTongue) rfl ⟨?_,below_setRow (hB1.alloc (by omega) _) (by simp) _⟩
    rw [if_pos Hc.out,HT.out]
    rfl
  · have Hc := hidMk hc
    clear hc
    go_enter Try.func25,Try.ntmps25
    go_wp2_with (refine wpList_load_row rfl 30 _ rfl w.heap.size rfl _ (jobC J (.slice a n c)) _ _ b0 Try.underlying30 rfl szJob ?_)
    refine (filed_any J a n c b m d l _ Hn.out hm (Hh.out.up hW) Hm.out hmm (Hl.out.up hW)).mono ?_
    rintro e w1 ⟨he,hb1⟩
    rw [if_neg Hc.out] at he
    subst he
    have hz1 := hb1.size
    simp only [World.size_alloc] at hz1
    have k1 := b1.below hb1 (by simp)
    have hB1 : Below w.heap.size w w1 := hW.trans (hb1.mono (by simp; omega))
    clear hb1 b0 b1 hW
    have q1 := k1.alloc (.cells (jobC zeroJ (.slice none 0 0)) 104)
    go_wp2_with (first | (refine wpList_store_row rfl 104 _ _ rfl w1.heap.size (jobC zeroJ (.slice none 0 0)) rfl rfl _ _ (Bk.new _ _ _) szWork rfl (oneJob _ _ _ _) ?_; rw [World.setRow_alloc_new]) | refine wpList_store_row rfl 25 _ _ rfl (w.heap.size + 1) (tonC zeroJ.tg) rfl rfl _ _ q1 szTongue rfl (oneTon _) ?_)
    refine bodyPost_ret (results_row_tmp Try.results25 _ _ _ _ _ _ rfl rfl (q1.row _) Try.underlying25 szTongue) rfl ⟨?_,below_setRow (hB1.alloc (by omega) _) (by simp) _⟩
    rw [if_neg Hc.out]
    rfl
end Go.Proofs.Ytolabejbhaeddaa
/- Drawn regions gone through by hand. -/
namespace Go.Proofs.Ytolabejbhaeddaa
set_option linter.all false
open Go.RowKit

theorem region_via {P : Program} {id : Nat} {ops : Array Oper} {b : Bool} {Q : Exit → Act → World → Prop} {a : Act} {w : World} (R : Act → Exit → Act → World → Prop) (h : (Code.region id ops b).wp P (R a) a w) (hR : ∀ e a' w',R a e a' w' → Q e a' w') : (Code.region id ops b).wp P Q a w :=
  Code.wp_mono hR h
theorem yields_row {P : Program} {ops : Array Oper} {S : World → Prop} {op : Oper} {a : Act} (hw : Region.wanted op (yielded ops a.tmps) = true) (ty : TypeId) (x : Operand) (ho : op.op = .load ty x)
    (g : Nat) (cs : Array Value) (hx : a.eval x = .pointer (some ⟨g,0,none⟩)) (t : TypeId) (hS : ∀ w,S w → Bk w g t cs) {fs : Array Field} (hu : P.underlying ty = some (.struct fs)) (hi : (P.info? ty).map (·.size) = some cs.size) : YieldsIf P ops S op (.agg cs) a :=
  .inl ⟨hw,fun w hw' => by
    have hg := hS w hw'
    unfold execOp
    simp only [ho,hx,Instr.loadAt,Instr.sureAddr,Sem.run_bind,Sem.run_pure,Result.andThen_ok,run_loadVar_row w g _ ty cs _ _ hg hu rfl hi]⟩
end Go.Proofs.Ytolabejbhaeddaa
/- A region that draws, in a round of a range over a function: by the rules for one that is in no round. -/
namespace Go.Proofs.Ytolabejbhaeddaa
set_option linter.all false
open Go.RowKit

end Go.Proofs.Ytolabejbhaeddaa
/- What a round of the tuner's search keeps. -/
namespace Go.Proofs.Ytolabejbhaeddaa
set_option linter.all false
open Go.RowKit Go.Shelf

section
variable {J : Jb} {s : Value} {bm k : Nat} {t : Tg} {W w w' : World} {g5 g6 g7 g9 : Nat} {m : Int × Int}
end
end Go.Proofs.Ytolabejbhaeddaa
/- The code of the tuner's search in parts. -/
namespace Go.Proofs.Ytolabejbhaeddaa
set_option linter.all false
open Go.RowKit
def sndB : Code → Code
  | .seq _ b => b
  | c => c
end Go.Proofs.Ytolabejbhaeddaa
/- One round of the tuner's search: what holds in it. -/
namespace Go.Proofs.Ytolabejbhaeddaa
set_option linter.all false
open Go.RowKit Go.Shelf
end Go.Proofs.Ytolabejbhaeddaa
/- The game and strokes that are fixed beforehand: mathematics, without Go. -/
namespace Go.Proofs.Ytolabejbhaeddaa
set_option linter.all false
/-! ### choosing -/
theorem pass_1 {wi : Int} {sh : List R2} {a b : Int} : passI wi sh a b = 1 ↔ (win wi sh).1 ≤ a ∧ b ≤ (win wi sh).2 := by
  unfold passI
  split
  · simp_all
  · split <;> simp_all
end Go.Proofs.Ytolabejbhaeddaa
/- What a valid job is, in numbers, both ways. -/
namespace Go.Proofs.Ytolabejbhaeddaa
set_option linter.all false
structure Jb.Full (J : Jb) : Prop where
  p : -60 ≤ J.p1 ∧ J.p1 ≤ J.p2 ∧ J.p2 ≤ 60
  t : 0 ≤ J.t1 ∧ J.t1 ≤ J.t2 ∧ J.t2 ≤ 100
  r : 0 ≤ J.r1 ∧ J.r1 ≤ J.r2 ∧ J.r2 ≤ 100
  u : 0 ≤ J.u1 ∧ J.u1 ≤ J.u2 ∧ J.u2 ≤ 12
  d : 0 ≤ J.d1 ∧ J.d1 ≤ J.d2 ∧ J.d2 ≤ 12
  x : 0 ≤ J.x1 ∧ J.x1 ≤ J.x2 ∧ J.x2 ≤ 12
  y : 0 ≤ J.y1 ∧ J.y1 ≤ J.y2 ∧ J.y2 ≤ 12
  le : 0 ≤ J.le ∧ J.le ≤ 100
  wi : 0 ≤ J.wi ∧ J.wi ≤ 60
  me : 0 ≤ J.me ∧ J.me ≤ 6
  len : J.sh.length ≤ 4
  sh : ∀ s ∈ J.sh,-60 ≤ s.1 ∧ s.1 ≤ s.2 ∧ s.2 ≤ 60
theorem rngE_mk {a b lo hi : Int} (h : lo ≤ a ∧ a ≤ b ∧ b ≤ hi) : rngE a b lo hi = 0 := by
  unfold rngE
  rw [if_neg (by omega),if_neg (by omega),if_neg (by omega)]
theorem numE_mk {a lo hi : Int} (h : lo ≤ a ∧ a ≤ hi) : numE a lo hi = 0 := by
  unfold numE
  rw [if_neg (by omega)]
theorem shE_mk : ∀ (l : List R2),(∀ s ∈ l,-60 ≤ s.1 ∧ s.1 ≤ s.2 ∧ s.2 ≤ 60) → shE l = 0
  | [],_ => rfl
  | e :: l,h => by
    unfold shE
    rw [if_pos (rngE_mk (h e List.mem_cons_self))]
    exact shE_mk l fun x hx => h x (List.mem_cons_of_mem _ hx)
theorem check_full {J : Jb} (h : J.check = 0) : J.Full := by
  unfold Jb.check at h
  by_cases h0 : J.head = 0
  · rw [if_pos h0] at h
    by_cases h1 : 4 < J.sh.length
    · rw [if_pos h1] at h; omega
    · rw [if_neg h1] at h
      by_cases h2 : shE J.sh = 0
      · rw [if_pos h2] at h
        have a := firstE_ok _ h0
        have b := firstE_ok _ h
        have s := shE_ok _ h2
        have a1 := rngE_ok (a _ (by simp : rngE J.p1 J.p2 (-60) 60 ∈ _))
        have a2 := rngE_ok (a _ (by simp : rngE J.t1 J.t2 0 100 ∈ _))
        have a3 := rngE_ok (a _ (by simp : rngE J.r1 J.r2 0 100 ∈ _))
        have a4 := rngE_ok (a _ (by simp : rngE J.u1 J.u2 0 12 ∈ _))
        have a5 := rngE_ok (a _ (by simp : rngE J.d1 J.d2 0 12 ∈ _))
        have a6 := rngE_ok (a _ (by simp : rngE J.x1 J.x2 0 12 ∈ _))
        have a7 := rngE_ok (a _ (by simp : rngE J.y1 J.y2 0 12 ∈ _))
        have a8 := numE_ok (a _ (by simp : numE J.le 0 100 ∈ _))
        have b1 := numE_ok (b _ (by simp : numE J.wi 0 60 ∈ _))
        have b2 := numE_ok (b _ (by simp : numE J.me 0 6 ∈ _))
        refine ⟨by omega,by omega,by omega,by omega,by omega,by omega,by omega,a8,b1,b2,by omega,fun q hq => ?_⟩
        have := rngE_ok (s q hq)
        omega
      · rw [if_neg h2] at h; exact absurd h h2
  · rw [if_neg h0] at h; exact absurd h h0
theorem Jb.Full.check {J : Jb} (h : J.Full) : J.check = 0 := by
  unfold Jb.check
  have h0 : J.head = 0 := by
    unfold Jb.head
    rw [rngE_mk h.p,rngE_mk h.t,rngE_mk h.r,rngE_mk h.u,rngE_mk h.d,rngE_mk h.x,rngE_mk h.y,numE_mk h.le]
    rfl
  rw [if_pos h0,if_neg (by have := h.len; omega),if_pos (shE_mk _ h.sh),numE_mk h.wi,numE_mk h.me]
  rfl
end Go.Proofs.Ytolabejbhaeddaa
/- The game, turned about: mathematics, without Go. -/
namespace Go.Proofs.Ytolabejbhaeddaa
set_option linter.all false
end Go.Proofs.Ytolabejbhaeddaa
/- One round of the tuner's search. -/
namespace Go.Proofs.Ytolabejbhaeddaa
set_option linter.all false
open Go.RowKit Go.Shelf
attribute [local go_sem] Oper.semAt_some
end Go.Proofs.Ytolabejbhaeddaa
/- The iterator of reed.readings, where the elements are known to be readings. -/
namespace Go.Proofs.Ytolabejbhaeddaa
set_option linter.all false
open Go.RowKit Go.Shelf

attribute [local go_sem] Oper.semAt_some

end Go.Proofs.Ytolabejbhaeddaa
/- The readings of the tuner's search: what a loop over them keeps. -/
namespace Go.Proofs.Ytolabejbhaeddaa
set_option linter.all false
open Go.RowKit Go.Shelf
end Go.Proofs.Ytolabejbhaeddaa
/- The loop over the readings in the tuner's search. -/
namespace Go.Proofs.Ytolabejbhaeddaa
set_option linter.all false
open Go.RowKit Go.Shelf
attribute [local go_sem] Oper.semAt_some
end Go.Proofs.Ytolabejbhaeddaa
/- A stroke that is tried in the tuner's search. -/
namespace Go.Proofs.Ytolabejbhaeddaa
set_option linter.all false
open Go.RowKit Go.Shelf
end Go.Proofs.Ytolabejbhaeddaa
/- A stroke that is tried in the tuner's search: ahead of the readings. -/
namespace Go.Proofs.Ytolabejbhaeddaa
set_option linter.all false
open Go.RowKit Go.Shelf
end Go.Proofs.Ytolabejbhaeddaa
/- The two strokes of the tuner's search. -/
namespace Go.Proofs.Ytolabejbhaeddaa
set_option linter.all false
open Go.RowKit Go.Shelf
end Go.Proofs.Ytolabejbhaeddaa
/- The end of the tuner's search. -/
namespace Go.Proofs.Ytolabejbhaeddaa
set_option linter.all false
open Go.RowKit Go.Shelf
attribute [local go_sem] Oper.semAt_some
end Go.Proofs.Ytolabejbhaeddaa
/- The beginning of the tuner's search. -/
namespace Go.Proofs.Ytolabejbhaeddaa
set_option linter.all false
open Go.RowKit Go.Shelf
end Go.Proofs.Ytolabejbhaeddaa
/- The tuner's search finds the best move. -/
namespace Go.Proofs.Ytolabejbhaeddaa
set_option linter.all false
open Go.RowKit Go.Shelf
attribute [local go_sem] Oper.semAt_some
end Go.Proofs.Ytolabejbhaeddaa
/- The tuner's search, made. -/
namespace Go.Proofs.Ytolabejbhaeddaa
set_option linter.all false
open Go.RowKit Go.Shelf
end Go.Proofs.Ytolabejbhaeddaa
/- Next, on any job. -/
namespace Go.Proofs.Ytolabejbhaeddaa
set_option linter.all false
open Go.RowKit Go.Shelf
section
variable {J : Jb} {sa : Option Addr} {sn sc : Nat} {w0 w w' : World} {g1 : Nat}
end
end Go.Proofs.Ytolabejbhaeddaa
/- Guided: its code in parts, and what lies about in it. -/
namespace Go.Proofs.Ytolabejbhaeddaa
set_option linter.all false
open Go.RowKit Go.Shelf
section
variable {J : Jb} {sa : Option Addr} {sn sc : Nat} {w0 : World} {g1 g2 g3 g5 g6 Bw Bf Bj Bb bm : Nat} {X Y : World}
end
section
variable {J : Jb} {sa : Option Addr} {sn sc : Nat} {w0 : World} {g1 g2 g3 g5 g6 Bw Bf Bj Bb bm : Nat} {g8 c c' : Nat} {x : R2} {X0 X Y : World}
end
end Go.Proofs.Ytolabejbhaeddaa
/- One round of Guided. -/
namespace Go.Proofs.Ytolabejbhaeddaa
set_option linter.all false
open Go.RowKit Go.Shelf
attribute [local go_sem] Oper.semAt_some
end Go.Proofs.Ytolabejbhaeddaa
/- The loop over the readings in Guided. -/
namespace Go.Proofs.Ytolabejbhaeddaa
set_option linter.all false
open Go.RowKit Go.Shelf
attribute [local go_sem] Oper.semAt_some
end Go.Proofs.Ytolabejbhaeddaa
/- Guided, on any job. -/
namespace Go.Proofs.Ytolabejbhaeddaa
set_option linter.all false
open Go.RowKit Go.Shelf
end Go.Proofs.Ytolabejbhaeddaa
/- The reference's game, and the program's: mathematics, without Go. -/
namespace Go.Proofs.Ytolabejbhaeddaa
set_option linter.all false
end Go.Proofs.Ytolabejbhaeddaa
/- Mathematics of the law ReedGame: what is needed, gone through. -/
namespace Go.Proofs.Ytolabejbhaeddaa
set_option linter.all false
open Go.RowKit
def capk (k : Nat) (v : Int) : Int := if v ≤ (k : Int) then v else (k : Int) + 1
theorem mx_le {a b c : Int} : mx a b ≤ c ↔ a ≤ c ∧ b ≤ c := by unfold mx; split <;> omega
theorem cap_le {k : Nat} {v : Int} {n : Nat} (hn : n ≤ k) : capk k v ≤ n ↔ v ≤ n := by unfold capk; split <;> omega
end Go.Proofs.Ytolabejbhaeddaa
/- What a tongue truly is, and how far it is off: numbers. -/
namespace Go.Proofs.Ytolabejbhaeddaa
set_option linter.all false

/-- What a tongue truly is. -/
structure Fd where
  p : Int
  t : Int
  r : Int
/-- A tongue as it is known contains what it truly is. -/
structure Tg.has (T : Tg) (x : Fd) : Prop where
  p : T.p1 ≤ x.p ∧ x.p ≤ T.p2
  t : T.t1 ≤ x.t ∧ x.t ≤ T.t2
  r : T.r1 ≤ x.r ∧ x.r ≤ T.r2
/-- Each number lies in its range. -/
def Ins : List Int → List R2 → Prop
  | [],[] => True
  | n :: l,s :: q => (s.1 ≤ n ∧ n ≤ s.2) ∧ Ins l q
  | _,_ => False
theorem Ins.len : ∀ {l : List Int} {q : List R2},Ins l q → l.length = q.length
  | [],[],_ => rfl
  | _ :: _,_ :: _,h => by simp [Ins.len h.2]
  | [],_ :: _,h => h.elim
  | _ :: _,[],h => h.elim
theorem Ins.all {P : Int → Prop} {Q : R2 → Prop} (hPQ : ∀ n s,s.1 ≤ n ∧ n ≤ s.2 → Q s → P n) : ∀ {l : List Int} {q : List R2},Ins l q → (∀ s ∈ q,Q s) → ∀ n ∈ l,P n
  | [],[],_,_ => by simp
  | n :: l,s :: q,h,hq => by
    intro m hm
    rcases List.mem_cons.1 hm with rfl | hm
    · exact hPQ _ s h.1 (hq s List.mem_cons_self)
    · exact Ins.all hPQ h.2 (fun s hs => hq s (List.mem_cons_of_mem _ hs)) m hm
  | [],_ :: _,h,_ => h.elim
  | _ :: _,[],h,_ => h.elim
theorem Ins.allR {P : Int → Prop} {Q : R2 → Prop} (hPQ : ∀ n s,s.1 ≤ n ∧ n ≤ s.2 → P n → Q s) : ∀ {l : List Int} {q : List R2},Ins l q → (∀ n ∈ l,P n) → ∀ s ∈ q,Q s
  | [],[],_,_ => by simp
  | n :: l,s :: q,h,hq => by
    intro m hm
    rcases List.mem_cons.1 hm with rfl | hm
    · exact hPQ n _ h.1 (hq n List.mem_cons_self)
    · exact Ins.allR hPQ h.2 (fun n hn => hq n (List.mem_cons_of_mem _ hn)) m hm
  | [],_ :: _,h,_ => h.elim
  | _ :: _,[],h,_ => h.elim
/-! ### far -/
def farStep (p : Int) (n s : Int) : Int := mx (mx n (p + s)) (-p - s)
def farI (p : Int) (l : List Int) : Int := l.foldl (farStep p) 0
theorem farf_le (p m : Int) : ∀ (l : List Int) (z : Int),l.foldl (farStep p) z ≤ m ↔ z ≤ m ∧ ∀ s ∈ l,p + s ≤ m ∧ -p - s ≤ m
  | [],z => by simp
  | s :: l,z => by
    have ih := farf_le p m l (farStep p z s)
    have hs : farStep p z s ≤ m ↔ z ≤ m ∧ p + s ≤ m ∧ -p - s ≤ m := by
      unfold farStep mx
      refine ⟨fun h => ?_,fun h => ?_⟩ <;> revert h <;> (repeat' split) <;> omega
    show l.foldl (farStep p) (farStep p z s) ≤ m ↔ _
    rw [ih,hs]
    simp only [List.forall_mem_cons]
    exact ⟨fun ⟨⟨a,b,c⟩,d⟩ => ⟨a,⟨b,c⟩,d⟩,fun ⟨a,⟨b,c⟩,d⟩ => ⟨⟨a,b,c⟩,d⟩⟩
theorem far_le (p m : Int) (l : List Int) : farI p l ≤ m ↔ 0 ≤ m ∧ ∀ s ∈ l,p + s ≤ m ∧ -p - s ≤ m := farf_le p m l 0
theorem far_bnd (p : Int) (hp : -500 ≤ p ∧ p ≤ 500) : ∀ (l : List Int) (m : Int),(∀ s ∈ l,-100 ≤ s ∧ s ≤ 100) → 0 ≤ m ∧ m ≤ 1000 → 0 ≤ l.foldl (farStep p) m ∧ l.foldl (farStep p) m ≤ 1000
  | [],m,_,h => h
  | s :: l,m,hs,h => by
    have h1 := hs s List.mem_cons_self
    refine far_bnd p hp l _ (fun q hq => hs q (List.mem_cons_of_mem _ hq)) ?_
    unfold farStep mx
    refine ⟨?_,?_⟩ <;> (repeat' split) <;> omega
theorem far_snoc (p : Int) (l : List Int) (s : Int) : (l ++ [s]).foldl (farStep p) 0 = farStep p (l.foldl (farStep p) 0) s := by simp
end Go.Proofs.Ytolabejbhaeddaa
/- Mathematics of the law ReedAll: what is found of a list of truths. -/
namespace Go.Proofs.Ytolabejbhaeddaa
set_option linter.all false
open Go.RowKit

/-- The whole numbers of a range, in order. -/
def nums (a b : Int) : List Int := (List.range (b - a + 1).toNat).map fun (i : Nat) => a + (i : Int)
theorem mem_nums {a b n : Int} : n ∈ nums a b ↔ a ≤ n ∧ n ≤ b := by
  unfold nums
  simp only [List.mem_map,List.mem_range]
  constructor
  · rintro ⟨i,hi,rfl⟩
    omega
  · rintro ⟨h1,h2⟩
    exact ⟨(n - a).toNat,by omega,by omega⟩
/-- What was found of all truths. -/
structure En where
  pl : Int
  ph : Int
  tl : Int
  th : Int
  rl : Int
  rh : Int
  worst : Int
  passes : Int
  thin : Int
  fine : Int
  truths : Int
def one (b : Prop) [Decidable b] : Int := if b then 1 else 0
def thinB (J : Jb) (t : Fd) : Prop := t.t < J.le ∨ t.r < J.le
instance (J : Jb) (t : Fd) : Decidable (thinB J t) := by unfold thinB; infer_instance
/-- One truth is taken. -/
def En.note (J : Jb) (e : En) (q : Fd × List Int) : En :=
  let z := decide (e.truths = 0)
  let f := farI q.1.p q.2
  { pl := mn (if z then q.1.p else e.pl) q.1.p,ph := mx (if z then q.1.p else e.ph) q.1.p
    tl := mn (if z then q.1.t else e.tl) q.1.t,th := mx (if z then q.1.t else e.th) q.1.t
    rl := mn (if z then q.1.r else e.rl) q.1.r,rh := mx (if z then q.1.r else e.rh) q.1.r
    worst := mx e.worst f,passes := e.passes + one (f ≤ J.wi),thin := e.thin + one (thinB J q.1),fine := e.fine + one (f ≤ J.wi ∧ ¬ thinB J q.1),truths := e.truths + 1 }
def En.notes (J : Jb) (e : En) (l : List (Fd × List Int)) : En := l.foldl (En.note J) e
def en0 : En := ⟨0,0,0,0,0,0,0,0,0,0,0⟩
/-- What the finds say of a list of truths. -/
structure EnOf (J : Jb) (e : En) (l : List (Fd × List Int)) : Prop where
  tr : e.truths = l.length
  pl : l ≠ [] → (∀ q ∈ l,e.pl ≤ q.1.p ∧ q.1.p ≤ e.ph) ∧ (∃ q ∈ l,q.1.p = e.pl) ∧ ∃ q ∈ l,q.1.p = e.ph
  tl : l ≠ [] → (∀ q ∈ l,e.tl ≤ q.1.t ∧ q.1.t ≤ e.th) ∧ (∃ q ∈ l,q.1.t = e.tl) ∧ ∃ q ∈ l,q.1.t = e.th
  rl : l ≠ [] → (∀ q ∈ l,e.rl ≤ q.1.r ∧ q.1.r ≤ e.rh) ∧ (∃ q ∈ l,q.1.r = e.rl) ∧ ∃ q ∈ l,q.1.r = e.rh
  wo : ∀ c : Int,e.worst ≤ c ↔ 0 ≤ c ∧ ∀ q ∈ l,farI q.1.p q.2 ≤ c
  pa : e.passes = (l.countP fun q => decide (farI q.1.p q.2 ≤ J.wi) : Nat)
  thn : e.thin = (l.countP fun q => decide (thinB J q.1) : Nat)
  fi : e.fine = (l.countP fun q => decide (farI q.1.p q.2 ≤ J.wi ∧ ¬ thinB J q.1) : Nat)
theorem of_nil (J : Jb) : EnOf J en0 [] := by
  refine ⟨rfl,by simp,by simp,by simp,?_,rfl,rfl,rfl⟩
  intro c
  simp [en0]
theorem ends_snoc {α : Type} (f : α → Int) (l : List α) (q : α) (lo hi : Int) (z : Bool) (hz : z = true ↔ l = []) (h : l ≠ [] → (∀ q ∈ l,lo ≤ f q ∧ f q ≤ hi) ∧ (∃ q ∈ l,f q = lo) ∧ ∃ q ∈ l,f q = hi) :
    (∀ y ∈ l ++ [q],mn (if z then f q else lo) (f q) ≤ f y ∧ f y ≤ mx (if z then f q else hi) (f q)) ∧ (∃ y ∈ l ++ [q],f y = mn (if z then f q else lo) (f q)) ∧ ∃ y ∈ l ++ [q],f y = mx (if z then f q else hi) (f q) := by
  by_cases hl : l = []
  · have : z = true := hz.2 hl
    subst hl
    subst this
    simp [mn,mx]
  · have : z = false := by cases z with
      | true => exact absurd (hz.1 rfl) hl
      | false => rfl
    subst this
    obtain ⟨h1,⟨a,ha,ea⟩,b,hb,eb⟩ := h hl
    have e1 : (if false = true then f q else lo) = lo := rfl
    have e2 : (if false = true then f q else hi) = hi := rfl
    rw [e1,e2]
    refine ⟨?_,?_,?_⟩
    · intro y hy
      rcases List.mem_append.1 hy with hy | hy
      · have := h1 y hy
        unfold mn mx
        split <;> split <;> omega
      · have : y = q := by simpa using hy
        subst this
        unfold mn mx
        split <;> split <;> omega
    · by_cases hc : f q < lo
      · exact ⟨q,by simp,by unfold mn; rw [if_pos hc]⟩
      · exact ⟨a,List.mem_append_left _ ha,by unfold mn; rw [if_neg hc]; exact ea⟩
    · by_cases hc : hi < f q
      · exact ⟨q,by simp,by unfold mx; rw [if_pos hc]⟩
      · exact ⟨b,List.mem_append_left _ hb,by unfold mx; rw [if_neg hc]; exact eb⟩
theorem cnt_snoc {α : Type} (P : α → Bool) (l : List α) (q : α) (v : Int) (b : Prop) [Decidable b] (hb : P q = decide b) (h : v = (l.countP P : Nat)) : v + one b = ((l ++ [q]).countP P : Nat) := by
  rw [List.countP_append,List.countP_singleton,h,hb]
  unfold one
  by_cases hq : b <;> simp [hq]
theorem of_snoc {J : Jb} {e : En} {l : List (Fd × List Int)} (h : EnOf J e l) (q : Fd × List Int) : EnOf J (e.note J q) (l ++ [q]) := by
  have hz : decide (e.truths = 0) = true ↔ l = [] := by
    rw [h.tr]
    simp
  refine ⟨?_,fun _ => ends_snoc (fun q => q.1.p) l q e.pl e.ph _ hz h.pl,fun _ => ends_snoc (fun q => q.1.t) l q e.tl e.th _ hz h.tl,fun _ => ends_snoc (fun q => q.1.r) l q e.rl e.rh _ hz h.rl,?_,cnt_snoc _ l q _ _ rfl h.pa,cnt_snoc _ l q _ _ rfl h.thn,cnt_snoc _ l q _ _ rfl h.fi⟩
  · show e.truths + 1 = _
    rw [h.tr]
    simp
  · intro c
    show mx e.worst (farI q.1.p q.2) ≤ c ↔ _
    rw [mx_le,h.wo c]
    simp only [List.mem_append,List.mem_singleton,or_imp,forall_and,forall_eq]
    exact and_assoc
theorem of_notes {J : Jb} : ∀ (l k : List (Fd × List Int)) (e : En),EnOf J e k → EnOf J (e.notes J l) (k ++ l)
  | [],k,e,h => by simpa [En.notes] using h
  | q :: l,k,e,h => by
    have h2 := of_notes l (k ++ [q]) (e.note J q) (of_snoc h q)
    simpa [En.notes] using h2
theorem cnt_all {α : Type} (P : α → Bool) (l : List α) : ((l.countP P : Nat) : Int) = l.length ↔ ∀ q ∈ l,P q = true := by
  rw [← List.countP_eq_length]
  omega
theorem cnt_none {α : Type} (P : α → Bool) (l : List α) : ((l.countP P : Nat) : Int) = 0 ↔ ∀ q ∈ l,¬ P q = true := by
  rw [← List.countP_eq_zero]
  omega
/-- What 'told' says. -/
def toldI (so all : Int) : Int := if so = all then 1 else if so = 0 then 2 else 3
theorem told_cnt {α : Type} (P : α → Bool) (l : List α) (hl : l ≠ []) (v : Int) (h1 : v = 1 ↔ ∀ q ∈ l,P q = true) (h2 : v = 2 ↔ ∀ q ∈ l,¬ P q = true) (h3 : v = 1 ∨ v = 2 ∨ v = 3) : toldI (l.countP P : Nat) l.length = v := by
  unfold toldI
  by_cases a1 : ∀ q ∈ l,P q = true
  · rw [if_pos ((cnt_all P l).2 a1)]
    exact (h1.2 a1).symm
  · rw [if_neg (fun h => a1 ((cnt_all P l).1 h))]
    by_cases a2 : ∀ q ∈ l,¬ P q = true
    · rw [if_pos ((cnt_none P l).2 a2)]
      exact (h2.2 a2).symm
    · rw [if_neg (fun h => a2 ((cnt_none P l).1 h))]
      rcases h3 with h | h | h
      · exact absurd (h1.1 h) a1
      · exact absurd (h2.1 h) a2
      · exact h.symm
end Go.Proofs.Ytolabejbhaeddaa
/- The windows of a list of shifts, and what passes. -/
namespace Go.Proofs.Ytolabejbhaeddaa
set_option linter.all false
open Go.RowKit
theorem meetL_iff (n : Int) : ∀ (l : List R2) (r : R2),((meetL r l).1 ≤ n ∧ n ≤ (meetL r l).2) ↔ (r.1 ≤ n ∧ n ≤ r.2) ∧ ∀ s ∈ l,s.1 ≤ n ∧ n ≤ s.2
  | [],r => by simp [meetL]
  | s :: l,r => by
    have ih := meetL_iff n l (meet2 r s)
    have hs : ((meet2 r s).1 ≤ n ∧ n ≤ (meet2 r s).2) ↔ (r.1 ≤ n ∧ n ≤ r.2) ∧ (s.1 ≤ n ∧ n ≤ s.2) := by
      unfold meet2
      refine ⟨fun h => ?_,fun h => ?_⟩ <;> revert h <;> (repeat' split) <;> omega
    show ((meetL (meet2 r s) l).1 ≤ n ∧ n ≤ (meetL (meet2 r s) l).2) ↔ _
    rw [ih,hs]
    simp only [List.forall_mem_cons]
    exact ⟨fun ⟨⟨a,b⟩,d⟩ => ⟨a,b,d⟩,fun ⟨a,b,d⟩ => ⟨⟨a,b⟩,d⟩⟩
theorem win_iff (wi n : Int) (sh : List R2) : ((win wi sh).1 ≤ n ∧ n ≤ (win wi sh).2) ↔ ∀ s ∈ conds sh,-wi - s.1 ≤ n ∧ n ≤ wi - s.2 := by
  have key : ∀ l : List R2,l ≠ [] → (((meetAll (l.map (sureOf wi))).1 ≤ n ∧ n ≤ (meetAll (l.map (sureOf wi))).2) ↔ ∀ s ∈ l,-wi - s.1 ≤ n ∧ n ≤ wi - s.2) := by
    intro l hl
    cases l with
    | nil => exact absurd rfl hl
    | cons s l =>
      show ((meetL (sureOf wi s) (l.map (sureOf wi))).1 ≤ n ∧ n ≤ (meetL (sureOf wi s) (l.map (sureOf wi))).2) ↔ _
      rw [meetL_iff]
      simp only [sureOf,List.forall_mem_map,List.forall_mem_cons]
  refine key (conds sh) ?_
  unfold conds
  split
  · simp
  · assumption
theorem pos_iff (wi n : Int) (sh : List R2) : ((pos wi sh).1 ≤ n ∧ n ≤ (pos wi sh).2) ↔ ∀ s ∈ conds sh,-wi - s.2 ≤ n ∧ n ≤ wi - s.1 := by
  have key : ∀ l : List R2,l ≠ [] → (((meetAll (l.map (possOf wi))).1 ≤ n ∧ n ≤ (meetAll (l.map (possOf wi))).2) ↔ ∀ s ∈ l,-wi - s.2 ≤ n ∧ n ≤ wi - s.1) := by
    intro l hl
    cases l with
    | nil => exact absurd rfl hl
    | cons s l =>
      show ((meetL (possOf wi s) (l.map (possOf wi))).1 ≤ n ∧ n ≤ (meetL (possOf wi s) (l.map (possOf wi))).2) ↔ _
      rw [meetL_iff]
      simp only [possOf,List.forall_mem_map,List.forall_mem_cons]
  refine key (conds sh) ?_
  unfold conds
  split
  · simp
  · assumption
theorem pass_right (wi : Int) (hw : 0 ≤ wi) (sh : List R2) (a b p : Int) (hp : a ≤ p ∧ p ≤ b) (l : List Int) (hl : Ins l (conds sh)) : passI wi sh a b = 3 ∨ (passI wi sh a b = 1 ∧ farI p l ≤ wi) ∨ (passI wi sh a b = 2 ∧ ¬ farI p l ≤ wi) := by
  unfold passI
  by_cases h : (win wi sh).1 ≤ a ∧ b ≤ (win wi sh).2
  · rw [if_pos h]
    refine .inr (.inl ⟨rfl,?_⟩)
    rw [far_le]
    refine ⟨hw,?_⟩
    have hin := (win_iff wi p sh).1 (by omega)
    exact Ins.all (Q := fun s => -wi - s.1 ≤ p ∧ p ≤ wi - s.2) (fun n s h1 h2 => by omega) hl hin
  · rw [if_neg h]
    by_cases h2 : (meet2 (pos wi sh) (a,b)).2 < (meet2 (pos wi sh) (a,b)).1
    · rw [if_pos h2]
      refine .inr (.inr ⟨rfl,fun hf => ?_⟩)
      rw [far_le] at hf
      have hin := (pos_iff wi p sh).2 (Ins.allR (P := fun s => p + s ≤ wi ∧ -p - s ≤ wi) (fun n s h1 h2 => by omega) hl hf.2)
      revert h2
      unfold meet2
      simp only
      split <;> split <;> omega
    · rw [if_neg h2]; exact .inl rfl
end Go.Proofs.Ytolabejbhaeddaa
/- Mathematics of the law ReedAll: the answers are what all truths say. -/
namespace Go.Proofs.Ytolabejbhaeddaa
set_option linter.all false
open Go.RowKit

theorem ins_map (g : R2 → Int) : ∀ (q : List R2),(∀ s ∈ q,s.1 ≤ g s ∧ g s ≤ s.2) → Ins (q.map g) q
  | [],_ => trivial
  | s :: q,h => ⟨h s List.mem_cons_self,ins_map g q fun s hs => h s (List.mem_cons_of_mem _ hs)⟩
/-- A tongue of which something is known that can be. -/
structure Tg.Ne (T : Tg) : Prop where
  p : T.p1 ≤ T.p2
  t : T.t1 ≤ T.t2
  r : T.r1 ≤ T.r2
def OrdS (q : List R2) : Prop := ∀ s ∈ q,s.1 ≤ s.2
theorem conds_ord {sh : List R2} (h : OrdS sh) : OrdS (conds sh) := by
  intro s hs
  unfold conds at hs
  split at hs
  · have : s = (0,0) := by simpa using hs
    subst this
    exact Int.le_refl _
  · exact h s hs
theorem pass_all {wi : Int} (hw : 0 ≤ wi) {sh : List R2} (ho : OrdS (conds sh)) {a b : Int} (hab : a ≤ b) : passI wi sh a b = 1 ↔ ∀ p l,(a ≤ p ∧ p ≤ b) → Ins l (conds sh) → farI p l ≤ wi := by
  constructor
  · intro h p l hp hl
    rcases pass_right wi hw sh a b p hp l hl with h3 | ⟨_,h3⟩ | ⟨h3,_⟩
    · omega
    · exact h3
    · omega
  · intro h
    have h1 := (far_le a wi _).1 (h a _ ⟨Int.le_refl _,hab⟩ (ins_map (·.1) _ fun s hs => ⟨Int.le_refl _,ho s hs⟩))
    have h2 := (far_le b wi _).1 (h b _ ⟨hab,Int.le_refl _⟩ (ins_map (·.2) _ fun s hs => ⟨ho s hs,Int.le_refl _⟩))
    have k1 : ∀ s ∈ conds sh,-a - s.1 ≤ wi := fun s hs => (h1.2 s.1 (List.mem_map.2 ⟨s,hs,rfl⟩)).2
    have k2 : ∀ s ∈ conds sh,b + s.2 ≤ wi := fun s hs => (h2.2 s.2 (List.mem_map.2 ⟨s,hs,rfl⟩)).1
    rw [pass_1]
    refine ⟨((win_iff wi a sh).2 fun s hs => ?_).1,((win_iff wi b sh).2 fun s hs => ?_).2⟩
    · have := k1 s hs
      have := k2 s hs
      omega
    · have := k1 s hs
      have := k2 s hs
      omega
theorem pass_three (wi : Int) (sh : List R2) (a b : Int) : passI wi sh a b = 1 ∨ passI wi sh a b = 2 ∨ passI wi sh a b = 3 := by
  unfold passI
  split
  · exact .inl rfl
  · split
    · exact .inr (.inl rfl)
    · exact .inr (.inr rfl)
theorem pass_none {wi : Int} (hw : 0 ≤ wi) {sh : List R2} (ho : OrdS (conds sh)) {a b : Int} (hab : a ≤ b) : passI wi sh a b = 2 ↔ ∀ p l,(a ≤ p ∧ p ≤ b) → Ins l (conds sh) → ¬ farI p l ≤ wi := by
  constructor
  · intro h p l hp hl
    rcases pass_right wi hw sh a b p hp l hl with h3 | ⟨h3,_⟩ | ⟨_,h3⟩
    · omega
    · omega
    · exact h3
  · intro h
    rcases pass_three wi sh a b with h1 | h1 | h1
    · exact absurd ((pass_all hw ho hab).1 h1 a _ ⟨Int.le_refl _,hab⟩ (ins_map (·.1) _ fun s hs => ⟨Int.le_refl _,ho s hs⟩)) (h a _ ⟨Int.le_refl _,hab⟩ (ins_map (·.1) _ fun s hs => ⟨Int.le_refl _,ho s hs⟩))
    · exact h1
    · exfalso
      have hne : ¬ (meet2 (pos wi sh) (a,b)).2 < (meet2 (pos wi sh) (a,b)).1 := by
        intro hc
        unfold passI at h1
        split at h1
        · omega
        · omega
      obtain ⟨p,hp,hq⟩ : ∃ p,(a ≤ p ∧ p ≤ b) ∧ ((pos wi sh).1 ≤ p ∧ p ≤ (pos wi sh).2) := by
        refine ⟨(meet2 (pos wi sh) (a,b)).1,?_,?_⟩ <;> revert hne <;> unfold meet2 <;> simp only <;> (repeat' split) <;> omega
      have hc := (pos_iff wi p sh).1 hq
      refine h p ((conds sh).map fun s => if s.1 < -wi - p then -wi - p else s.1) hp (ins_map _ _ fun s hs => ?_) ((far_le p wi _).2 ⟨hw,?_⟩)
      · have h2 := hc s hs
        have h3 := ho s hs
        (try simp only)
        split <;> omega
      · intro v hv
        obtain ⟨s,hs,rfl⟩ := List.mem_map.1 hv
        have h2 := hc s hs
        have h3 := ho s hs
        (try simp only)
        split <;> omega
theorem worst_fold (T : Tg) (c : Int) : ∀ (q : List R2) (m : Int),q.foldl (fun m s => mx (mx m (-(T.p1 + s.1))) (T.p2 + s.2)) m ≤ c ↔ m ≤ c ∧ ∀ s ∈ q,-(T.p1 + s.1) ≤ c ∧ T.p2 + s.2 ≤ c
  | [],m => by simp
  | s :: q,m => by
    rw [List.foldl_cons,worst_fold T c q]
    simp only [List.mem_cons,forall_eq_or_imp,mx_le]
    constructor
    · rintro ⟨⟨⟨h1,h2⟩,h3⟩,h4⟩; exact ⟨h1,⟨h2,h3⟩,h4⟩
    · rintro ⟨h1,⟨h2,h3⟩,h4⟩; exact ⟨⟨⟨h1,h2⟩,h3⟩,h4⟩
theorem worst_all {J : Jb} {T : Tg} (hT : T.Ne) (ho : OrdS (conds J.sh)) (c : Int) : worstI J T ≤ c ↔ 0 ≤ c ∧ ∀ p l,(T.p1 ≤ p ∧ p ≤ T.p2) → Ins l (conds J.sh) → farI p l ≤ c := by
  unfold worstI
  rw [worst_fold]
  constructor
  · rintro ⟨h0,h⟩
    refine ⟨h0,fun p l hp hl => (far_le p c l).2 ⟨h0,?_⟩⟩
    refine Ins.all (Q := fun s => -(T.p1 + s.1) ≤ c ∧ T.p2 + s.2 ≤ c) (fun n s hn hs => ?_) hl h
    omega
  · rintro ⟨h0,h⟩
    refine ⟨h0,fun s hs => ?_⟩
    have h1 := (far_le T.p1 c _).1 (h T.p1 _ ⟨Int.le_refl _,hT.p⟩ (ins_map (·.1) _ fun s hs => ⟨Int.le_refl _,ho s hs⟩))
    have h2 := (far_le T.p2 c _).1 (h T.p2 _ ⟨hT.p,Int.le_refl _⟩ (ins_map (·.2) _ fun s hs => ⟨ho s hs,Int.le_refl _⟩))
    have k1 := (h1.2 s.1 (List.mem_map.2 ⟨s,hs,rfl⟩)).2
    have k2 := (h2.2 s.2 (List.mem_map.2 ⟨s,hs,rfl⟩)).1
    omega
theorem spoil_three (le : Int) (T : Tg) : spoilI le T = 1 ∨ spoilI le T = 2 ∨ spoilI le T = 3 := by
  unfold spoilI
  split
  · exact .inl rfl
  · split
    · exact .inr (.inl rfl)
    · exact .inr (.inr rfl)
theorem spoil_all {J : Jb} {T : Tg} (hT : T.Ne) : spoilI J.le T = 1 ↔ ∀ x : Fd,T.has x → thinB J x := by
  obtain ⟨hp,ht,hr⟩ := hT
  constructor
  · intro h x hx
    obtain ⟨_,h1,h2⟩ := hx
    unfold spoilI at h
    unfold thinB
    by_cases hc : T.t2 < J.le ∨ T.r2 < J.le
    · omega
    · rw [if_neg hc] at h
      split at h <;> omega
  · intro h
    have h1 := h ⟨T.p1,T.t2,T.r2⟩ ⟨⟨Int.le_refl _,hp⟩,⟨ht,Int.le_refl _⟩,⟨hr,Int.le_refl _⟩⟩
    unfold spoilI
    exact if_pos h1
theorem spoil_none {J : Jb} {T : Tg} (hT : T.Ne) : spoilI J.le T = 2 ↔ ∀ x : Fd,T.has x → ¬ thinB J x := by
  obtain ⟨hp,ht,hr⟩ := hT
  constructor
  · intro h x hx
    obtain ⟨_,h1,h2⟩ := hx
    unfold spoilI at h
    unfold thinB
    by_cases hc : T.t2 < J.le ∨ T.r2 < J.le
    · rw [if_pos hc] at h
      omega
    · rw [if_neg hc] at h
      split at h <;> omega
  · intro h
    have h1 := h ⟨T.p1,T.t1,T.r1⟩ ⟨⟨Int.le_refl _,hp⟩,⟨Int.le_refl _,ht⟩,⟨Int.le_refl _,hr⟩⟩
    unfold thinB at h1
    simp only at h1
    unfold spoilI
    rw [if_neg (by omega),if_pos (by omega)]
theorem fine_three (J : Jb) (T : Tg) : fineI J T = 1 ∨ fineI J T = 2 ∨ fineI J T = 3 := by
  unfold fineI
  split
  · exact .inl rfl
  · split
    · exact .inr (.inl rfl)
    · exact .inr (.inr rfl)
/-- All truths of a job: what a tongue may be, and what the shifts may be. -/
def Truths (J : Jb) (T : Tg) (L : List (Fd × List Int)) : Prop := ∀ q,q ∈ L ↔ T.has q.1 ∧ Ins q.2 (conds J.sh)
theorem fine_all {J : Jb} {T : Tg} (hT : T.Ne) (hw : 0 ≤ J.wi) (ho : OrdS (conds J.sh)) : fineI J T = 1 ↔ ∀ (x : Fd) l,T.has x → Ins l (conds J.sh) → farI x.p l ≤ J.wi ∧ ¬ thinB J x := by
  have e : fineI J T = 1 ↔ passI J.wi J.sh T.p1 T.p2 = 1 ∧ spoilI J.le T = 2 := by
    unfold fineI
    by_cases h : passI J.wi J.sh T.p1 T.p2 = 1 ∧ spoilI J.le T = 2
    · rw [if_pos h]
      exact ⟨fun _ => h,fun _ => rfl⟩
    · rw [if_neg h]
      refine ⟨fun h2 => ?_,fun h2 => absurd h2 h⟩
      split at h2 <;> omega
  rw [e,pass_all hw ho hT.p,spoil_none hT]
  constructor
  · rintro ⟨h1,h2⟩ x l hx hl
    exact ⟨h1 x.p l hx.p hl,h2 x hx⟩
  · intro h
    refine ⟨fun p l hp hl => (h ⟨p,T.t1,T.r1⟩ l ⟨hp,⟨Int.le_refl _,hT.t⟩,⟨Int.le_refl _,hT.r⟩⟩ hl).1,fun x hx => ?_⟩
    exact (h x _ hx (ins_map (·.1) _ fun s hs => ⟨Int.le_refl _,ho s hs⟩)).2
theorem fine_none {J : Jb} {T : Tg} (hT : T.Ne) (hw : 0 ≤ J.wi) (ho : OrdS (conds J.sh)) : fineI J T = 2 ↔ ∀ (x : Fd) l,T.has x → Ins l (conds J.sh) → ¬ (farI x.p l ≤ J.wi ∧ ¬ thinB J x) := by
  have e : fineI J T = 2 ↔ passI J.wi J.sh T.p1 T.p2 = 2 ∨ spoilI J.le T = 1 := by
    unfold fineI
    by_cases h : passI J.wi J.sh T.p1 T.p2 = 1 ∧ spoilI J.le T = 2
    · rw [if_pos h]
      constructor <;> intro h2 <;> omega
    · rw [if_neg h]
      by_cases h2 : passI J.wi J.sh T.p1 T.p2 = 2 ∨ spoilI J.le T = 1
      · rw [if_pos h2]
        exact ⟨fun _ => h2,fun _ => rfl⟩
      · rw [if_neg h2]
        exact ⟨fun h3 => by omega,fun h3 => absurd h3 h2⟩
  rw [e,pass_none hw ho hT.p,spoil_all hT]
  constructor
  · rintro (h | h) x l hx hl ⟨h1,h2⟩
    · exact h x.p l hx.p hl h1
    · exact h2 (h x hx)
  · intro h
    by_cases h1 : ∀ x : Fd,T.has x → thinB J x
    · exact .inr h1
    · refine .inl fun p l hp hl hf => h1 fun x hx => ?_
      by_cases h2 : thinB J x
      · exact h2
      · exact absurd ⟨hf,h2⟩ (h ⟨p,x.t,x.r⟩ l ⟨hp,hx.t,hx.r⟩ hl)
theorem le_both {a b : Int} (h : ∀ c : Int,a ≤ c ↔ b ≤ c) : a = b := Int.le_antisymm ((h b).2 (Int.le_refl _)) ((h a).1 (Int.le_refl _))
/-- What is found of all truths is what the answers say. -/
theorem all_ok {J : Jb} {T : Tg} {L : List (Fd × List Int)} {e : En} (he : EnOf J e L) (hL : Truths J T L) (hT : T.Ne) (hw : 0 ≤ J.wi) (hs : OrdS J.sh) :
    (e.pl = T.p1 ∧ e.ph = T.p2 ∧ e.tl = T.t1 ∧ e.th = T.t2 ∧ e.rl = T.r1 ∧ e.rh = T.r2) ∧ e.worst = worstI J T ∧ toldI e.thin e.truths = spoilI J.le T ∧ toldI e.fine e.truths = fineI J T ∧ toldI e.passes e.truths = passI J.wi J.sh T.p1 T.p2 := by
  have ho := conds_ord hs
  have hl0 : Ins ((conds J.sh).map (·.1)) (conds J.sh) := ins_map _ _ fun s hs => ⟨Int.le_refl _,ho s hs⟩
  have m1 : ∀ p t r,(T.p1 ≤ p ∧ p ≤ T.p2) → (T.t1 ≤ t ∧ t ≤ T.t2) → (T.r1 ≤ r ∧ r ≤ T.r2) → ((⟨p,t,r⟩ : Fd),(conds J.sh).map (·.1)) ∈ L := fun p t r h1 h2 h3 => (hL _).2 ⟨⟨h1,h2,h3⟩,hl0⟩
  have q1 := m1 T.p1 T.t1 T.r1 ⟨Int.le_refl _,hT.p⟩ ⟨Int.le_refl _,hT.t⟩ ⟨Int.le_refl _,hT.r⟩
  have q2 := m1 T.p2 T.t2 T.r2 ⟨hT.p,Int.le_refl _⟩ ⟨hT.t,Int.le_refl _⟩ ⟨hT.r,Int.le_refl _⟩
  have hne : L ≠ [] := List.ne_nil_of_mem q1
  obtain ⟨a1,⟨x1,y1,z1⟩,x2,y2,z2⟩ := he.pl hne
  obtain ⟨b1,⟨x3,y3,z3⟩,x4,y4,z4⟩ := he.tl hne
  obtain ⟨c1,⟨x5,y5,z5⟩,x6,y6,z6⟩ := he.rl hne
  refine ⟨?_,?_,?_,?_,?_⟩
  · have := a1 _ q1
    have := a1 _ q2
    have := b1 _ q1
    have := b1 _ q2
    have := c1 _ q1
    have := c1 _ q2
    have := ((hL _).1 y1).1.p
    have := ((hL _).1 y2).1.p
    have := ((hL _).1 y3).1.t
    have := ((hL _).1 y4).1.t
    have := ((hL _).1 y5).1.r
    have := ((hL _).1 y6).1.r
    simp only at *
    omega
  · refine le_both fun c => ?_
    rw [he.wo c,worst_all hT ho c]
    refine and_congr_right fun _ => ?_
    constructor
    · intro h p l hp hl
      exact h (⟨p,T.t1,T.r1⟩,l) ((hL _).2 ⟨⟨hp,⟨Int.le_refl _,hT.t⟩,⟨Int.le_refl _,hT.r⟩⟩,hl⟩)
    · intro h q hq
      exact h q.1.p q.2 ((hL q).1 hq).1.p ((hL q).1 hq).2
  · rw [he.thn,he.tr]
    refine told_cnt _ L hne _ ?_ ?_ (spoil_three _ _)
    · rw [spoil_all hT]
      simp only [decide_eq_true_eq]
      exact ⟨fun h q hq => h q.1 ((hL q).1 hq).1,fun h x hx => h (x,_) ((hL _).2 ⟨hx,hl0⟩)⟩
    · rw [spoil_none hT]
      simp only [decide_eq_true_eq]
      exact ⟨fun h q hq => h q.1 ((hL q).1 hq).1,fun h x hx => h (x,_) ((hL _).2 ⟨hx,hl0⟩)⟩
  · rw [he.fi,he.tr]
    refine told_cnt _ L hne _ ?_ ?_ (fine_three _ _)
    · rw [fine_all hT hw ho]
      simp only [decide_eq_true_eq]
      exact ⟨fun h q hq => h q.1 q.2 ((hL q).1 hq).1 ((hL q).1 hq).2,fun h x l hx hl => h (x,l) ((hL _).2 ⟨hx,hl⟩)⟩
    · rw [fine_none hT hw ho]
      simp only [decide_eq_true_eq]
      exact ⟨fun h q hq => h q.1 q.2 ((hL q).1 hq).1 ((hL q).1 hq).2,fun h x l hx hl => h (x,l) ((hL _).2 ⟨hx,hl⟩)⟩
  · rw [he.pa,he.tr]
    refine told_cnt _ L hne _ ?_ ?_ (pass_three _ _ _ _)
    · rw [pass_all hw ho hT.p]
      simp only [decide_eq_true_eq]
      exact ⟨fun h q hq => h q.1.p q.2 ((hL q).1 hq).1.p ((hL q).1 hq).2,fun h p l hp hl => h (⟨p,T.t1,T.r1⟩,l) ((hL _).2 ⟨⟨hp,⟨Int.le_refl _,hT.t⟩,⟨Int.le_refl _,hT.r⟩⟩,hl⟩)⟩
    · rw [pass_none hw ho hT.p]
      simp only [decide_eq_true_eq]
      exact ⟨fun h q hq => h q.1.p q.2 ((hL q).1 hq).1.p ((hL q).1 hq).2,fun h p l hp hl => h (⟨p,T.t1,T.r1⟩,l) ((hL _).2 ⟨⟨hp,⟨Int.le_refl _,hT.t⟩,⟨Int.le_refl _,hT.r⟩⟩,hl⟩)⟩
end Go.Proofs.Ytolabejbhaeddaa
