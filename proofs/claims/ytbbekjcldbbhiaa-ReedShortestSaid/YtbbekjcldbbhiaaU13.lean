/- Part 13 of the proof: Stroke, Window, JobPJB, JobPJC, PotK, Same. -/
import Derived.Deep.RegionHeld3
import Derived.Laws.ResultCell
import Derived.Deep.QuietTactic
import Derived.BigQuiet
import Derived.Test.YtbbekjcldbbhiaaU11
import Derived.Test.YtbbekjcldbbhiaaU12
import Derived.Test.YtbbekjcldbbhiaaU10
/- Contracts of what strokes do (package reed). -/
namespace Go.Proofs.Ytbbekjcldbbhiaa
set_option linter.all false
open Go.RowKit

/-- Numbers of a tongue lie within n. -/
def Tg.In (t : Tg) (n : Int) : Prop := -n ≤ t.p1 ∧ t.p1 ≤ n ∧ -n ≤ t.p2 ∧ t.p2 ≤ n ∧ -n ≤ t.t1 ∧ t.t1 ≤ n ∧ -n ≤ t.t2 ∧ t.t2 ≤ n ∧ -n ≤ t.r1 ∧ t.r1 ≤ n ∧ -n ≤ t.r2 ∧ t.r2 ≤ n

theorem ret_6 {a b c d e f a' b' c' d' e' f' : Int} (h1 : a = a') (h2 : b = b') (h3 : c = c') (h4 : d = d') (h5 : e = e') (h6 : f = f') :
    Ending.returned (.agg #[.int .i64 a, .int .i64 b, .int .i64 c, .int .i64 d, .int .i64 e, .int .i64 f]) = .returned (.agg #[.int .i64 a', .int .i64 b', .int .i64 c', .int .i64 d', .int .i64 e', .int .i64 f']) := by
  rw [h1, h2, h3, h4, h5, h6]

theorem three_new (w : World) (A B C : Array Value) (t u v : TypeId) : Bk (((w.alloc (.cells A t)).alloc (.cells B u)).alloc (.cells C v)) w.heap.size t A ∧ Bk (((w.alloc (.cells A t)).alloc (.cells B u)).alloc (.cells C v)) (w.heap.size + 1) u B ∧
    Bk (((w.alloc (.cells A t)).alloc (.cells B u)).alloc (.cells C v)) (w.heap.size + 2) v C := by
  have h1 := Bk.new (w.alloc (.cells A t)) u B
  have h2 := Bk.new ((w.alloc (.cells A t)).alloc (.cells B u)) v C
  simp only [World.size_alloc] at h1 h2
  exact ⟨((Bk.new w t A).alloc _).alloc _, h1.alloc _, h2⟩

theorem strk_in (J : Jb) (t : Tg) (s n : Int) (h : t.In n) (hJ : J.In 1000) : (strk J t s).In (n + 12) := by
  obtain ⟨h1, h2, h3, h4, h5, h6, h7, h8, h9, h10, h11, h12⟩ := h
  have := hJ.u1; have := hJ.u2; have := hJ.d1; have := hJ.d2; have := hJ.x1; have := hJ.x2; have := hJ.y1; have := hJ.y2
  unfold strk
  by_cases e1 : s = 1
  · rw [if_pos e1]; simp only [Tg.In]; omega
  · rw [if_neg e1]
    by_cases e2 : s = 2
    · rw [if_pos e2]; simp only [Tg.In]; omega
    · rw [if_neg e2]; simp only [Tg.In]; omega
theorem Jb.In.tg {J : Jb} {n : Int} (h : J.In n) : J.tg.In n := by
  have := h.p1; have := h.p2; have := h.t1; have := h.t2; have := h.r1; have := h.r2
  simp only [Tg.In, Jb.tg]; omega
theorem Jb.In.setTg {J : Jb} {n m : Int} {t : Tg} (h : J.In n) (ht : t.In m) : (J.setTg t).In m := by
  obtain ⟨h1, h2, h3, h4, h5, h6, h7, h8, h9, h10, h11, h12⟩ := ht
  exact ⟨⟨h1, h2⟩, ⟨h3, h4⟩, ⟨h5, h6⟩, ⟨h7, h8⟩, ⟨h9, h10⟩, ⟨h11, h12⟩, h.u1, h.u2, h.d1, h.d2, h.x1, h.x2, h.y1, h.y2, h.le, h.wi, h.me, h.sh, h.len⟩
theorem Tg.In.mono {t : Tg} {n m : Int} (h : t.In n) (hm : n ≤ m) : t.In m := by
  simp only [Tg.In] at h ⊢; omega
theorem Jb.In.mono {J : Jb} {n m : Int} (h : J.In n) (hm : n ≤ m) : J.In m := h.setTg (h.tg.mono hm)

end Go.Proofs.Ytbbekjcldbbhiaa
/- The contract of reed.Window. -/
namespace Go.Proofs.Ytbbekjcldbbhiaa
set_option linter.all false
open Go.RowKit

/-- All that Check looks at lies within its bounds. -/
theorem rngE_ok {a b lo hi : Int} (h : rngE a b lo hi = 0) : lo ≤ a ∧ a ≤ hi ∧ lo ≤ b ∧ b ≤ hi ∧ a ≤ b := by
  unfold rngE at h
  by_cases h1 : a < lo ∨ hi < a
  · rw [if_pos h1] at h; omega
  · rw [if_neg h1] at h
    by_cases h2 : b < lo ∨ hi < b
    · rw [if_pos h2] at h; omega
    · rw [if_neg h2] at h
      by_cases h3 : b < a
      · rw [if_pos h3] at h; omega
      · omega
theorem numE_ok {a lo hi : Int} (h : numE a lo hi = 0) : lo ≤ a ∧ a ≤ hi := by
  unfold numE at h
  by_cases h1 : a < lo ∨ hi < a
  · rw [if_pos h1] at h; omega
  · omega
theorem firstE_ok : ∀ (l : List Int), firstE l = 0 → ∀ x ∈ l, x = 0
  | [], _, x, h => by simp at h
  | e :: l, h, x, hx => by
    unfold firstE at h
    by_cases h0 : e = 0
    · rw [if_pos h0] at h
      rcases List.mem_cons.1 hx with rfl | hx
      · exact h0
      · exact firstE_ok l h x hx
    · rw [if_neg h0] at h; exact absurd h h0
theorem shE_ok : ∀ (l : List R2), shE l = 0 → ∀ s ∈ l, rngE s.1 s.2 (-60) 60 = 0
  | [], _, s, h => by simp at h
  | e :: l, h, s, hs => by
    unfold shE at h
    by_cases h0 : rngE e.1 e.2 (-60) 60 = 0
    · rw [if_pos h0] at h
      rcases List.mem_cons.1 hs with rfl | hs
      · exact h0
      · exact shE_ok l h s hs
    · rw [if_neg h0] at h; exact absurd h h0

/-- A valid job's numbers, and that its ranges are none upside down. -/
structure Jb.Ok (J : Jb) : Prop where
  inn : J.In 100
  p : J.p1 ≤ J.p2
  t : J.t1 ≤ J.t2
  r : J.r1 ≤ J.r2
  u : J.u1 ≤ J.u2
  d : J.d1 ≤ J.d2
  x : J.x1 ≤ J.x2
  y : J.y1 ≤ J.y2
  s : ∀ s ∈ J.sh, s.1 ≤ s.2
theorem check_ok {J : Jb} (h : J.check = 0) : J.Ok := by
  unfold Jb.check at h
  by_cases h0 : J.head = 0
  · rw [if_pos h0] at h
    by_cases h1 : 4 < J.sh.length
    · rw [if_pos h1] at h; omega
    · rw [if_neg h1] at h
      by_cases h2 : shE J.sh = 0
      · rw [if_pos h2] at h
        have a := firstE_ok _ h0
        have b := firstE_ok _ h
        have s := shE_ok _ h2
        have a1 := rngE_ok (a _ (by simp : rngE J.p1 J.p2 (-60) 60 ∈ _))
        have a2 := rngE_ok (a _ (by simp : rngE J.t1 J.t2 0 100 ∈ _))
        have a3 := rngE_ok (a _ (by simp : rngE J.r1 J.r2 0 100 ∈ _))
        have a4 := rngE_ok (a _ (by simp : rngE J.u1 J.u2 0 12 ∈ _))
        have a5 := rngE_ok (a _ (by simp : rngE J.d1 J.d2 0 12 ∈ _))
        have a6 := rngE_ok (a _ (by simp : rngE J.x1 J.x2 0 12 ∈ _))
        have a7 := rngE_ok (a _ (by simp : rngE J.y1 J.y2 0 12 ∈ _))
        have a8 := numE_ok (a _ (by simp : numE J.le 0 100 ∈ _))
        have b1 := numE_ok (b _ (by simp : numE J.wi 0 60 ∈ _))
        have b2 := numE_ok (b _ (by simp : numE J.me 0 6 ∈ _))
        refine ⟨⟨by omega, by omega, by omega, by omega, by omega, by omega, by omega, by omega, by omega, by omega, by omega, by omega, by omega, by omega, by omega, by omega, by omega, fun q hq => ?_, by omega⟩, by omega, by omega, by omega, by omega, by omega, by omega, by omega, fun q hq => (rngE_ok (s q hq)).2.2.2.2⟩
        have := rngE_ok (s q hq)
        omega
      · rw [if_neg h2] at h; exact absurd h h2
  · rw [if_neg h0] at h; exact absurd h h0

end Go.Proofs.Ytbbekjcldbbhiaa
/- What a pot makes a job of: plain facts. -/
namespace Go.Sim.JB
set_option linter.all false
open Go Go.RowKit Go.Proofs Go.Proofs.Ytbbekjcldbbhiaa
set_option maxRecDepth 1000000
noncomputable section
def seedAt (s : Int) : Nat → Int
  | 0 => s
  | i + 1 => stepS (seedAt s i)
def res0 (s : Int) : Int := uptoF (seedAt s 0) 5
def res1 (s : Int) : Int := uptoF (seedAt s 1) 3
def res2 (s : Int) : Int := pick3 0 1 (uptoF (seedAt s 1) 3) (uptoF (seedAt s 2) 2)
def res3 (s : Int) : Int := uptoF (seedAt s 3) 32
def res4 (s : Int) : Int := uptoF (seedAt s 4) 1
def res5 (s : Int) : Int := pick3 0 0 (uptoF (seedAt s 4) 1) (uptoF (seedAt s 5) 2)
def res6 (s : Int) : Int := uptoF (seedAt s 6) 1
def res7 (s : Int) : Int := pick3 0 0 (uptoF (seedAt s 6) 1) (uptoF (seedAt s 7) 2)
def res8 (s : Int) : Int := uptoF (seedAt s 8) 20
def res9 (s : Int) : Int := uptoF (seedAt s 9) 2
def res10 (s : Int) : Int := pick3 0 0 (uptoF (seedAt s 9) 2) (uptoF (seedAt s 10) 2)
def res11 (s : Int) : Int := uptoF (seedAt s 11) 2
def res12 (s : Int) : Int := pick3 0 0 (uptoF (seedAt s 11) 2) (uptoF (seedAt s 12) 2)
def res13 (s : Int) : Int := uptoF (seedAt s 13) 20
def res14 (s : Int) : Int := uptoF (seedAt s 14) 2
def res15 (s : Int) : Int := pick3 0 0 (uptoF (seedAt s 14) 2) (uptoF (seedAt s 15) 2)
def res16 (s : Int) : Int := uptoF (seedAt s 16) 2
def res17 (s : Int) : Int := pick3 0 0 (uptoF (seedAt s 16) 2) (uptoF (seedAt s 17) 2)
def res18 (s : Int) : Int := uptoF (seedAt s 18) 5
def res19 (s : Int) : Int := uptoF (seedAt s 19) 1
def res20 (s : Int) : Int := pick3 0 0 (uptoF (seedAt s 19) 1) (uptoF (seedAt s 20) 2)
def res21 (s : Int) : Int := uptoF (seedAt s 21) 1
def res22 (s : Int) : Int := pick3 0 0 (uptoF (seedAt s 21) 1) (uptoF (seedAt s 22) 2)
def res23 (s : Int) : Int := uptoF (seedAt s 23) 5
def res24 (s : Int) : Int := uptoF (seedAt s 24) 1
def res25 (s : Int) : Int := pick3 0 0 (uptoF (seedAt s 24) 1) (uptoF (seedAt s 25) 2)
def res26 (s : Int) : Int := uptoF (seedAt s 26) 1
def res27 (s : Int) : Int := pick3 0 0 (uptoF (seedAt s 26) 1) (uptoF (seedAt s 27) 2)
def res28 (s : Int) : Int := uptoF (seedAt s 28) 4
def res29 (s : Int) : Int := uptoF (seedAt s 29) 1
def res30 (s : Int) : Int := pick3 0 0 (uptoF (seedAt s 29) 1) (uptoF (seedAt s 30) 2)
def res31 (s : Int) : Int := uptoF (seedAt s 31) 1
def res32 (s : Int) : Int := pick3 0 0 (uptoF (seedAt s 31) 1) (uptoF (seedAt s 32) 2)
def res33 (s : Int) : Int := uptoF (seedAt s 33) 4
def res34 (s : Int) : Int := uptoF (seedAt s 34) 1
def res35 (s : Int) : Int := pick3 0 0 (uptoF (seedAt s 34) 1) (uptoF (seedAt s 35) 2)
def res36 (s : Int) : Int := uptoF (seedAt s 36) 1
def res37 (s : Int) : Int := pick3 0 0 (uptoF (seedAt s 36) 1) (uptoF (seedAt s 37) 2)
def res38 (s : Int) : Int := uptoF (seedAt s 38) 20
def res39 (s : Int) : Int := uptoF (seedAt s 39) 3
def res40 (s : Int) : Int := uptoF (seedAt s 40) 6
def res41 (s : Int) : Int := uptoF (seedAt s 41) 2
def res42 (s : Int) : Int := pick3 0 0 (uptoF (seedAt s 41) 2) (uptoF (seedAt s 42) 2)
def res43 (s : Int) : Int := uptoF (seedAt s 43) 2
def res44 (s : Int) : Int := pick3 0 0 (uptoF (seedAt s 43) 2) (uptoF (seedAt s 44) 2)
def res45 (s : Int) : Int := uptoF (seedAt s 45) 6
def res46 (s : Int) : Int := uptoF (seedAt s 46) 2
def res47 (s : Int) : Int := pick3 0 0 (uptoF (seedAt s 46) 2) (uptoF (seedAt s 47) 2)
def res48 (s : Int) : Int := uptoF (seedAt s 48) 2
def res49 (s : Int) : Int := pick3 0 0 (uptoF (seedAt s 48) 2) (uptoF (seedAt s 49) 2)
def res50 (s : Int) : Int := uptoF (seedAt s 50) 6
def res51 (s : Int) : Int := uptoF (seedAt s 51) 2
def res52 (s : Int) : Int := pick3 0 0 (uptoF (seedAt s 51) 2) (uptoF (seedAt s 52) 2)
def res53 (s : Int) : Int := uptoF (seedAt s 53) 2
def res54 (s : Int) : Int := pick3 0 0 (uptoF (seedAt s 53) 2) (uptoF (seedAt s 54) 2)
def resL (s : Int) : List Int := [res0 s, res1 s, res2 s, res3 s, res4 s, res5 s, res6 s, res7 s, res8 s, res9 s, res10 s, res11 s, res12 s, res13 s, res14 s, res15 s, res16 s, res17 s, res18 s, res19 s, res20 s, res21 s, res22 s, res23 s, res24 s, res25 s, res26 s, res27 s, res28 s, res29 s, res30 s, res31 s, res32 s, res33 s, res34 s, res35 s, res36 s, res37 s, res38 s, res39 s, res40 s, res41 s, res42 s, res43 s, res44 s, res45 s, res46 s, res47 s, res48 s, res49 s, res50 s, res51 s, res52 s, res53 s, res54 s]
def nthZ : List Int → Nat → Option Int
  | [], _ => none
  | x :: _, 0 => some x
  | _ :: l, i + 1 => nthZ l i
def resAt (s : Int) (i : Nat) : Int := match nthZ (resL s) i with
  | some x => x
  | none => 0
@[instance_reducible] def jobRho (s : Int) : Rho := ⟨fun k => match Nat.blt k 100 with
  | true => seedAt s k
  | false => resAt s (k - 100), fun _ => .nilFunc, 0, fun _ => none⟩
theorem upB (x m : Int) (h : 0 ≤ m ∧ m ≤ 1000) : 0 ≤ uptoF x m ∧ uptoF x m ≤ m := by
  have := uptoF_in x m h.2
  omega
theorem pkB (a b c u m : Int) (ha : 0 ≤ a ∧ a ≤ m) (hb : 0 ≤ b ∧ b ≤ m) (hc : 0 ≤ c ∧ c ≤ m) : 0 ≤ pick3 a b c u ∧ pick3 a b c u ≤ m := by
  unfold pick3
  by_cases h0 : u = 0
  · rw [if_pos h0]; exact ha
  · rw [if_neg h0]
    by_cases h1 : u = 1
    · rw [if_pos h1]; exact hb
    · rw [if_neg h1]; exact hc
theorem rb0 (s : Int) : 0 ≤ res0 s ∧ res0 s ≤ 5 := upB _ _ (by decide)
theorem rb2 (s : Int) : 0 ≤ res2 s ∧ res2 s ≤ 3 := pkB _ _ _ _ _ (by decide) (by decide) (upB _ _ (by decide))
theorem rb3 (s : Int) : 0 ≤ res3 s ∧ res3 s ≤ 32 := upB _ _ (by decide)
theorem rb5 (s : Int) : 0 ≤ res5 s ∧ res5 s ≤ 1 := pkB _ _ _ _ _ (by decide) (by decide) (upB _ _ (by decide))
theorem rb7 (s : Int) : 0 ≤ res7 s ∧ res7 s ≤ 1 := pkB _ _ _ _ _ (by decide) (by decide) (upB _ _ (by decide))
theorem rb8 (s : Int) : 0 ≤ res8 s ∧ res8 s ≤ 20 := upB _ _ (by decide)
theorem rb10 (s : Int) : 0 ≤ res10 s ∧ res10 s ≤ 2 := pkB _ _ _ _ _ (by decide) (by decide) (upB _ _ (by decide))
theorem rb12 (s : Int) : 0 ≤ res12 s ∧ res12 s ≤ 2 := pkB _ _ _ _ _ (by decide) (by decide) (upB _ _ (by decide))
theorem rb13 (s : Int) : 0 ≤ res13 s ∧ res13 s ≤ 20 := upB _ _ (by decide)
theorem rb15 (s : Int) : 0 ≤ res15 s ∧ res15 s ≤ 2 := pkB _ _ _ _ _ (by decide) (by decide) (upB _ _ (by decide))
theorem rb17 (s : Int) : 0 ≤ res17 s ∧ res17 s ≤ 2 := pkB _ _ _ _ _ (by decide) (by decide) (upB _ _ (by decide))
theorem rb18 (s : Int) : 0 ≤ res18 s ∧ res18 s ≤ 5 := upB _ _ (by decide)
theorem rb20 (s : Int) : 0 ≤ res20 s ∧ res20 s ≤ 1 := pkB _ _ _ _ _ (by decide) (by decide) (upB _ _ (by decide))
theorem rb22 (s : Int) : 0 ≤ res22 s ∧ res22 s ≤ 1 := pkB _ _ _ _ _ (by decide) (by decide) (upB _ _ (by decide))
theorem rb23 (s : Int) : 0 ≤ res23 s ∧ res23 s ≤ 5 := upB _ _ (by decide)
theorem rb25 (s : Int) : 0 ≤ res25 s ∧ res25 s ≤ 1 := pkB _ _ _ _ _ (by decide) (by decide) (upB _ _ (by decide))
theorem rb27 (s : Int) : 0 ≤ res27 s ∧ res27 s ≤ 1 := pkB _ _ _ _ _ (by decide) (by decide) (upB _ _ (by decide))
theorem rb28 (s : Int) : 0 ≤ res28 s ∧ res28 s ≤ 4 := upB _ _ (by decide)
theorem rb30 (s : Int) : 0 ≤ res30 s ∧ res30 s ≤ 1 := pkB _ _ _ _ _ (by decide) (by decide) (upB _ _ (by decide))
theorem rb32 (s : Int) : 0 ≤ res32 s ∧ res32 s ≤ 1 := pkB _ _ _ _ _ (by decide) (by decide) (upB _ _ (by decide))
theorem rb33 (s : Int) : 0 ≤ res33 s ∧ res33 s ≤ 4 := upB _ _ (by decide)
theorem rb35 (s : Int) : 0 ≤ res35 s ∧ res35 s ≤ 1 := pkB _ _ _ _ _ (by decide) (by decide) (upB _ _ (by decide))
theorem rb37 (s : Int) : 0 ≤ res37 s ∧ res37 s ≤ 1 := pkB _ _ _ _ _ (by decide) (by decide) (upB _ _ (by decide))
theorem rb38 (s : Int) : 0 ≤ res38 s ∧ res38 s ≤ 20 := upB _ _ (by decide)
theorem rb39 (s : Int) : 0 ≤ res39 s ∧ res39 s ≤ 3 := upB _ _ (by decide)
theorem rb40 (s : Int) : 0 ≤ res40 s ∧ res40 s ≤ 6 := upB _ _ (by decide)
theorem rb42 (s : Int) : 0 ≤ res42 s ∧ res42 s ≤ 2 := pkB _ _ _ _ _ (by decide) (by decide) (upB _ _ (by decide))
theorem rb44 (s : Int) : 0 ≤ res44 s ∧ res44 s ≤ 2 := pkB _ _ _ _ _ (by decide) (by decide) (upB _ _ (by decide))
theorem rb45 (s : Int) : 0 ≤ res45 s ∧ res45 s ≤ 6 := upB _ _ (by decide)
theorem rb47 (s : Int) : 0 ≤ res47 s ∧ res47 s ≤ 2 := pkB _ _ _ _ _ (by decide) (by decide) (upB _ _ (by decide))
theorem rb49 (s : Int) : 0 ≤ res49 s ∧ res49 s ≤ 2 := pkB _ _ _ _ _ (by decide) (by decide) (upB _ _ (by decide))
theorem rb50 (s : Int) : 0 ≤ res50 s ∧ res50 s ≤ 6 := upB _ _ (by decide)
theorem rb52 (s : Int) : 0 ≤ res52 s ∧ res52 s ≤ 2 := pkB _ _ _ _ _ (by decide) (by decide) (upB _ _ (by decide))
theorem rb54 (s : Int) : 0 ≤ res54 s ∧ res54 s ≤ 2 := pkB _ _ _ _ _ (by decide) (by decide) (upB _ _ (by decide))
abbrev wr (x : Int) : Int := IntKind.i64.wrap x
theorem wr_in {x : Int} (h : -1000 ≤ x ∧ x ≤ 1000) : wr x = x := IntWalk.i64_in x (by omega)
def nlo (least n a : Int) : Int := if least < wr (n - a) then wr (n - a) else least
def nhi (most n b : Int) : Int := if wr (n + b) < most then wr (n + b) else most
theorem near_ok {least n most a b : Int} (h1 : -100 ≤ least ∧ least ≤ n ∧ n ≤ most ∧ most ≤ 100) (ha : 0 ≤ a ∧ a ≤ 100) (hb : 0 ≤ b ∧ b ≤ 100) : least ≤ nlo least n a ∧ nlo least n a ≤ n ∧ n ≤ nhi most n b ∧ nhi most n b ≤ most := by
  unfold nlo nhi
  rw [wr_in (by omega), wr_in (by omega)]
  refine ⟨?_, ?_, ?_, ?_⟩ <;> split <;> omega
theorem rngE_0 {a b lo hi : Int} (h : lo ≤ a ∧ a ≤ b ∧ b ≤ hi) : rngE a b lo hi = 0 := by
  unfold rngE
  rw [if_neg (by omega), if_neg (by omega), if_neg (by omega)]
theorem numE_0 {a lo hi : Int} (h : lo ≤ a ∧ a ≤ hi) : numE a lo hi = 0 := by
  unfold numE
  rw [if_neg (by omega)]
theorem check_0 {J : Jb} (p : -60 ≤ J.p1 ∧ J.p1 ≤ J.p2 ∧ J.p2 ≤ 60) (t : 0 ≤ J.t1 ∧ J.t1 ≤ J.t2 ∧ J.t2 ≤ 100) (r : 0 ≤ J.r1 ∧ J.r1 ≤ J.r2 ∧ J.r2 ≤ 100) (u : 0 ≤ J.u1 ∧ J.u1 ≤ J.u2 ∧ J.u2 ≤ 12) (d : 0 ≤ J.d1 ∧ J.d1 ≤ J.d2 ∧ J.d2 ≤ 12) (x : 0 ≤ J.x1 ∧ J.x1 ≤ J.x2 ∧ J.x2 ≤ 12) (y : 0 ≤ J.y1 ∧ J.y1 ≤ J.y2 ∧ J.y2 ≤ 12)
    (l : 0 ≤ J.le ∧ J.le ≤ 100) (n : J.sh.length ≤ 4) (sh : ∀ q ∈ J.sh, -60 ≤ q.1 ∧ q.1 ≤ q.2 ∧ q.2 ≤ 60) (wi : 0 ≤ J.wi ∧ J.wi ≤ 60) (me : 0 ≤ J.me ∧ J.me ≤ 6) : J.check = 0 := by
  have hh : J.head = 0 := by
    unfold Jb.head
    rw [rngE_0 p, rngE_0 t, rngE_0 r, rngE_0 u, rngE_0 d, rngE_0 x, rngE_0 y, numE_0 l]
    rfl
  have hs : ∀ q : List R2, (∀ z ∈ q, -60 ≤ z.1 ∧ z.1 ≤ z.2 ∧ z.2 ≤ 60) → shE q = 0 := by
    intro q
    induction q with
    | nil => intro _; rfl
    | cons z q ih =>
      intro h
      unfold shE
      rw [if_pos (rngE_0 (h z List.mem_cons_self))]
      exact ih fun z hz => h z (List.mem_cons_of_mem _ hz)
  unfold Jb.check
  rw [if_pos hh, if_neg (by omega), if_pos (hs _ sh), numE_0 wi, numE_0 me]
  rfl
def jobS (s : Int) : List R2 := [(nlo (-60) (wr (-3 + res40 s)) (res42 s), nhi 60 (wr (-3 + res40 s)) (res44 s)), (nlo (-60) (wr (-3 + res45 s)) (res47 s), nhi 60 (wr (-3 + res45 s)) (res49 s)), (nlo (-60) (wr (-3 + res50 s)) (res52 s), nhi 60 (wr (-3 + res50 s)) (res54 s))]
def jobJ (s : Int) (n : Nat) : Jb := ⟨nlo (-60) (wr (-16 + res3 s)) (res5 s), nhi 60 (wr (-16 + res3 s)) (res7 s), nlo (0) (wr (20 + res8 s)) (res10 s), nhi 100 (wr (20 + res8 s)) (res12 s), nlo (0) (wr (20 + res13 s)) (res15 s), nhi 100 (wr (20 + res13 s)) (res17 s), nlo (0) (wr (1 + res18 s)) (res20 s), nhi 12 (wr (1 + res18 s)) (res22 s), nlo (0) (wr (1 + res23 s)) (res25 s), nhi 12 (wr (1 + res23 s)) (res27 s), nlo (0) (res28 s) (res30 s), nhi 12 (res28 s) (res32 s), nlo (0) (res33 s) (res35 s), nhi 12 (res33 s) (res37 s), wr (10 + res38 s), wr (1 + res0 s), res2 s, (jobS s).take n⟩
theorem nrA {lo hi k m a c M A C : Int} (hk : (-100 ≤ lo ∧ hi ≤ 100) ∧ (lo ≤ k ∧ k + M ≤ hi) ∧ (0 ≤ M ∧ M ≤ 50) ∧ (A ≤ 100 ∧ C ≤ 100)) (hm : 0 ≤ m ∧ m ≤ M) (ha : 0 ≤ a ∧ a ≤ A) (hc : 0 ≤ c ∧ c ≤ C) : lo ≤ nlo lo (wr (k + m)) a ∧ nlo lo (wr (k + m)) a ≤ nhi hi (wr (k + m)) c ∧ nhi hi (wr (k + m)) c ≤ hi := by
  rw [wr_in (by omega)]
  have := near_ok (least := lo) (n := k + m) (most := hi) (a := a) (b := c) (by omega) (by omega) (by omega)
  omega
theorem nrB {lo hi m a c M A C : Int} (hk : (-100 ≤ lo ∧ hi ≤ 100) ∧ (lo ≤ 0 ∧ M ≤ hi) ∧ (A ≤ 100 ∧ C ≤ 100)) (hm : 0 ≤ m ∧ m ≤ M) (ha : 0 ≤ a ∧ a ≤ A) (hc : 0 ≤ c ∧ c ≤ C) : lo ≤ nlo lo m a ∧ nlo lo m a ≤ nhi hi m c ∧ nhi hi m c ≤ hi := by
  have := near_ok (least := lo) (n := m) (most := hi) (a := a) (b := c) (by omega) (by omega) (by omega)
  omega
theorem wrA {k m M lo hi : Int} (hk : (lo ≤ k ∧ k + M ≤ hi) ∧ (-100 ≤ lo ∧ hi ≤ 100)) (hm : 0 ≤ m ∧ m ≤ M) : lo ≤ wr (k + m) ∧ wr (k + m) ≤ hi := by
  rw [wr_in (by omega)]; omega
theorem job_sh (s : Int) : ∀ z ∈ jobS s, -60 ≤ z.1 ∧ z.1 ≤ z.2 ∧ z.2 ≤ 60 := by
  intro z hz
  simp only [jobS, List.mem_cons, List.not_mem_nil, or_false] at hz
  rcases hz with rfl | rfl | rfl
  · exact (nrA (by decide) (rb40 s) (rb42 s) (rb44 s))
  · exact (nrA (by decide) (rb45 s) (rb47 s) (rb49 s))
  · exact (nrA (by decide) (rb50 s) (rb52 s) (rb54 s))
theorem job_check (s : Int) (n : Nat) : (jobJ s n).check = 0 :=
  check_0 (nrA (by decide) (rb3 s) (rb5 s) (rb7 s)) (nrA (by decide) (rb8 s) (rb10 s) (rb12 s)) (nrA (by decide) (rb13 s) (rb15 s) (rb17 s)) (nrA (by decide) (rb18 s) (rb20 s) (rb22 s)) (nrA (by decide) (rb23 s) (rb25 s) (rb27 s)) (nrB (by decide) (rb28 s) (rb30 s) (rb32 s)) (nrB (by decide) (rb33 s) (rb35 s) (rb37 s)) (wrA (by decide) (rb38 s)) (by show ((jobS s).take n).length ≤ 4; have : (jobS s).length = 3 := rfl; rw [List.length_take]; omega) (fun z hz => job_sh s z (List.mem_of_mem_take hz)) (wrA (by decide) (rb0 s)) (by have := rb2 s; show 0 ≤ res2 s ∧ res2 s ≤ 6; omega)
end
end Go.Sim.JB
/- What a pot makes a job of: plain facts. -/
namespace Go.Sim.JC
set_option linter.all false
open Go Go.RowKit Go.Proofs Go.Proofs.Ytbbekjcldbbhiaa
set_option maxRecDepth 1000000
noncomputable section
def seedAt (s : Int) : Nat → Int
  | 0 => s
  | i + 1 => stepS (seedAt s i)
def res0 (s : Int) : Int := uptoF (seedAt s 0) 5
def res1 (s : Int) : Int := uptoF (seedAt s 1) 3
def res2 (s : Int) : Int := pick3 0 1 (uptoF (seedAt s 1) 3) (uptoF (seedAt s 2) 2)
def res3 (s : Int) : Int := uptoF (seedAt s 3) 32
def res4 (s : Int) : Int := uptoF (seedAt s 4) 3
def res5 (s : Int) : Int := pick3 0 0 (uptoF (seedAt s 4) 3) (uptoF (seedAt s 5) 2)
def res6 (s : Int) : Int := uptoF (seedAt s 6) 3
def res7 (s : Int) : Int := pick3 0 0 (uptoF (seedAt s 6) 3) (uptoF (seedAt s 7) 2)
def res8 (s : Int) : Int := uptoF (seedAt s 8) 20
def res9 (s : Int) : Int := uptoF (seedAt s 9) 2
def res10 (s : Int) : Int := pick3 0 0 (uptoF (seedAt s 9) 2) (uptoF (seedAt s 10) 2)
def res11 (s : Int) : Int := uptoF (seedAt s 11) 2
def res12 (s : Int) : Int := pick3 0 0 (uptoF (seedAt s 11) 2) (uptoF (seedAt s 12) 2)
def res13 (s : Int) : Int := uptoF (seedAt s 13) 20
def res14 (s : Int) : Int := uptoF (seedAt s 14) 2
def res15 (s : Int) : Int := pick3 0 0 (uptoF (seedAt s 14) 2) (uptoF (seedAt s 15) 2)
def res16 (s : Int) : Int := uptoF (seedAt s 16) 2
def res17 (s : Int) : Int := pick3 0 0 (uptoF (seedAt s 16) 2) (uptoF (seedAt s 17) 2)
def res18 (s : Int) : Int := uptoF (seedAt s 18) 5
def res19 (s : Int) : Int := uptoF (seedAt s 19) 2
def res20 (s : Int) : Int := pick3 0 0 (uptoF (seedAt s 19) 2) (uptoF (seedAt s 20) 2)
def res21 (s : Int) : Int := uptoF (seedAt s 21) 2
def res22 (s : Int) : Int := pick3 0 0 (uptoF (seedAt s 21) 2) (uptoF (seedAt s 22) 2)
def res23 (s : Int) : Int := uptoF (seedAt s 23) 5
def res24 (s : Int) : Int := uptoF (seedAt s 24) 2
def res25 (s : Int) : Int := pick3 0 0 (uptoF (seedAt s 24) 2) (uptoF (seedAt s 25) 2)
def res26 (s : Int) : Int := uptoF (seedAt s 26) 2
def res27 (s : Int) : Int := pick3 0 0 (uptoF (seedAt s 26) 2) (uptoF (seedAt s 27) 2)
def res28 (s : Int) : Int := uptoF (seedAt s 28) 4
def res29 (s : Int) : Int := uptoF (seedAt s 29) 1
def res30 (s : Int) : Int := pick3 0 0 (uptoF (seedAt s 29) 1) (uptoF (seedAt s 30) 2)
def res31 (s : Int) : Int := uptoF (seedAt s 31) 1
def res32 (s : Int) : Int := pick3 0 0 (uptoF (seedAt s 31) 1) (uptoF (seedAt s 32) 2)
def res33 (s : Int) : Int := uptoF (seedAt s 33) 4
def res34 (s : Int) : Int := uptoF (seedAt s 34) 1
def res35 (s : Int) : Int := pick3 0 0 (uptoF (seedAt s 34) 1) (uptoF (seedAt s 35) 2)
def res36 (s : Int) : Int := uptoF (seedAt s 36) 1
def res37 (s : Int) : Int := pick3 0 0 (uptoF (seedAt s 36) 1) (uptoF (seedAt s 37) 2)
def res38 (s : Int) : Int := uptoF (seedAt s 38) 20
def res39 (s : Int) : Int := uptoF (seedAt s 39) 3
def res40 (s : Int) : Int := uptoF (seedAt s 40) 6
def res41 (s : Int) : Int := uptoF (seedAt s 41) 2
def res42 (s : Int) : Int := pick3 0 0 (uptoF (seedAt s 41) 2) (uptoF (seedAt s 42) 2)
def res43 (s : Int) : Int := uptoF (seedAt s 43) 2
def res44 (s : Int) : Int := pick3 0 0 (uptoF (seedAt s 43) 2) (uptoF (seedAt s 44) 2)
def res45 (s : Int) : Int := uptoF (seedAt s 45) 6
def res46 (s : Int) : Int := uptoF (seedAt s 46) 2
def res47 (s : Int) : Int := pick3 0 0 (uptoF (seedAt s 46) 2) (uptoF (seedAt s 47) 2)
def res48 (s : Int) : Int := uptoF (seedAt s 48) 2
def res49 (s : Int) : Int := pick3 0 0 (uptoF (seedAt s 48) 2) (uptoF (seedAt s 49) 2)
def res50 (s : Int) : Int := uptoF (seedAt s 50) 6
def res51 (s : Int) : Int := uptoF (seedAt s 51) 2
def res52 (s : Int) : Int := pick3 0 0 (uptoF (seedAt s 51) 2) (uptoF (seedAt s 52) 2)
def res53 (s : Int) : Int := uptoF (seedAt s 53) 2
def res54 (s : Int) : Int := pick3 0 0 (uptoF (seedAt s 53) 2) (uptoF (seedAt s 54) 2)
def resL (s : Int) : List Int := [res0 s, res1 s, res2 s, res3 s, res4 s, res5 s, res6 s, res7 s, res8 s, res9 s, res10 s, res11 s, res12 s, res13 s, res14 s, res15 s, res16 s, res17 s, res18 s, res19 s, res20 s, res21 s, res22 s, res23 s, res24 s, res25 s, res26 s, res27 s, res28 s, res29 s, res30 s, res31 s, res32 s, res33 s, res34 s, res35 s, res36 s, res37 s, res38 s, res39 s, res40 s, res41 s, res42 s, res43 s, res44 s, res45 s, res46 s, res47 s, res48 s, res49 s, res50 s, res51 s, res52 s, res53 s, res54 s]
def nthZ : List Int → Nat → Option Int
  | [], _ => none
  | x :: _, 0 => some x
  | _ :: l, i + 1 => nthZ l i
def resAt (s : Int) (i : Nat) : Int := match nthZ (resL s) i with
  | some x => x
  | none => 0
@[instance_reducible] def jobRho (s : Int) : Rho := ⟨fun k => match Nat.blt k 100 with
  | true => seedAt s k
  | false => resAt s (k - 100), fun _ => .nilFunc, 0, fun _ => none⟩
theorem upB (x m : Int) (h : 0 ≤ m ∧ m ≤ 1000) : 0 ≤ uptoF x m ∧ uptoF x m ≤ m := by
  have := uptoF_in x m h.2
  omega
theorem pkB (a b c u m : Int) (ha : 0 ≤ a ∧ a ≤ m) (hb : 0 ≤ b ∧ b ≤ m) (hc : 0 ≤ c ∧ c ≤ m) : 0 ≤ pick3 a b c u ∧ pick3 a b c u ≤ m := by
  unfold pick3
  by_cases h0 : u = 0
  · rw [if_pos h0]; exact ha
  · rw [if_neg h0]
    by_cases h1 : u = 1
    · rw [if_pos h1]; exact hb
    · rw [if_neg h1]; exact hc
theorem rb0 (s : Int) : 0 ≤ res0 s ∧ res0 s ≤ 5 := upB _ _ (by decide)
theorem rb2 (s : Int) : 0 ≤ res2 s ∧ res2 s ≤ 3 := pkB _ _ _ _ _ (by decide) (by decide) (upB _ _ (by decide))
theorem rb3 (s : Int) : 0 ≤ res3 s ∧ res3 s ≤ 32 := upB _ _ (by decide)
theorem rb5 (s : Int) : 0 ≤ res5 s ∧ res5 s ≤ 3 := pkB _ _ _ _ _ (by decide) (by decide) (upB _ _ (by decide))
theorem rb7 (s : Int) : 0 ≤ res7 s ∧ res7 s ≤ 3 := pkB _ _ _ _ _ (by decide) (by decide) (upB _ _ (by decide))
theorem rb8 (s : Int) : 0 ≤ res8 s ∧ res8 s ≤ 20 := upB _ _ (by decide)
theorem rb10 (s : Int) : 0 ≤ res10 s ∧ res10 s ≤ 2 := pkB _ _ _ _ _ (by decide) (by decide) (upB _ _ (by decide))
theorem rb12 (s : Int) : 0 ≤ res12 s ∧ res12 s ≤ 2 := pkB _ _ _ _ _ (by decide) (by decide) (upB _ _ (by decide))
theorem rb13 (s : Int) : 0 ≤ res13 s ∧ res13 s ≤ 20 := upB _ _ (by decide)
theorem rb15 (s : Int) : 0 ≤ res15 s ∧ res15 s ≤ 2 := pkB _ _ _ _ _ (by decide) (by decide) (upB _ _ (by decide))
theorem rb17 (s : Int) : 0 ≤ res17 s ∧ res17 s ≤ 2 := pkB _ _ _ _ _ (by decide) (by decide) (upB _ _ (by decide))
theorem rb18 (s : Int) : 0 ≤ res18 s ∧ res18 s ≤ 5 := upB _ _ (by decide)
theorem rb20 (s : Int) : 0 ≤ res20 s ∧ res20 s ≤ 2 := pkB _ _ _ _ _ (by decide) (by decide) (upB _ _ (by decide))
theorem rb22 (s : Int) : 0 ≤ res22 s ∧ res22 s ≤ 2 := pkB _ _ _ _ _ (by decide) (by decide) (upB _ _ (by decide))
theorem rb23 (s : Int) : 0 ≤ res23 s ∧ res23 s ≤ 5 := upB _ _ (by decide)
theorem rb25 (s : Int) : 0 ≤ res25 s ∧ res25 s ≤ 2 := pkB _ _ _ _ _ (by decide) (by decide) (upB _ _ (by decide))
theorem rb27 (s : Int) : 0 ≤ res27 s ∧ res27 s ≤ 2 := pkB _ _ _ _ _ (by decide) (by decide) (upB _ _ (by decide))
theorem rb28 (s : Int) : 0 ≤ res28 s ∧ res28 s ≤ 4 := upB _ _ (by decide)
theorem rb30 (s : Int) : 0 ≤ res30 s ∧ res30 s ≤ 1 := pkB _ _ _ _ _ (by decide) (by decide) (upB _ _ (by decide))
theorem rb32 (s : Int) : 0 ≤ res32 s ∧ res32 s ≤ 1 := pkB _ _ _ _ _ (by decide) (by decide) (upB _ _ (by decide))
theorem rb33 (s : Int) : 0 ≤ res33 s ∧ res33 s ≤ 4 := upB _ _ (by decide)
theorem rb35 (s : Int) : 0 ≤ res35 s ∧ res35 s ≤ 1 := pkB _ _ _ _ _ (by decide) (by decide) (upB _ _ (by decide))
theorem rb37 (s : Int) : 0 ≤ res37 s ∧ res37 s ≤ 1 := pkB _ _ _ _ _ (by decide) (by decide) (upB _ _ (by decide))
theorem rb38 (s : Int) : 0 ≤ res38 s ∧ res38 s ≤ 20 := upB _ _ (by decide)
theorem rb39 (s : Int) : 0 ≤ res39 s ∧ res39 s ≤ 3 := upB _ _ (by decide)
theorem rb40 (s : Int) : 0 ≤ res40 s ∧ res40 s ≤ 6 := upB _ _ (by decide)
theorem rb42 (s : Int) : 0 ≤ res42 s ∧ res42 s ≤ 2 := pkB _ _ _ _ _ (by decide) (by decide) (upB _ _ (by decide))
theorem rb44 (s : Int) : 0 ≤ res44 s ∧ res44 s ≤ 2 := pkB _ _ _ _ _ (by decide) (by decide) (upB _ _ (by decide))
theorem rb45 (s : Int) : 0 ≤ res45 s ∧ res45 s ≤ 6 := upB _ _ (by decide)
theorem rb47 (s : Int) : 0 ≤ res47 s ∧ res47 s ≤ 2 := pkB _ _ _ _ _ (by decide) (by decide) (upB _ _ (by decide))
theorem rb49 (s : Int) : 0 ≤ res49 s ∧ res49 s ≤ 2 := pkB _ _ _ _ _ (by decide) (by decide) (upB _ _ (by decide))
theorem rb50 (s : Int) : 0 ≤ res50 s ∧ res50 s ≤ 6 := upB _ _ (by decide)
theorem rb52 (s : Int) : 0 ≤ res52 s ∧ res52 s ≤ 2 := pkB _ _ _ _ _ (by decide) (by decide) (upB _ _ (by decide))
theorem rb54 (s : Int) : 0 ≤ res54 s ∧ res54 s ≤ 2 := pkB _ _ _ _ _ (by decide) (by decide) (upB _ _ (by decide))
abbrev wr (x : Int) : Int := IntKind.i64.wrap x
theorem wr_in {x : Int} (h : -1000 ≤ x ∧ x ≤ 1000) : wr x = x := IntWalk.i64_in x (by omega)
def nlo (least n a : Int) : Int := if least < wr (n - a) then wr (n - a) else least
def nhi (most n b : Int) : Int := if wr (n + b) < most then wr (n + b) else most
theorem near_ok {least n most a b : Int} (h1 : -100 ≤ least ∧ least ≤ n ∧ n ≤ most ∧ most ≤ 100) (ha : 0 ≤ a ∧ a ≤ 100) (hb : 0 ≤ b ∧ b ≤ 100) : least ≤ nlo least n a ∧ nlo least n a ≤ n ∧ n ≤ nhi most n b ∧ nhi most n b ≤ most := by
  unfold nlo nhi
  rw [wr_in (by omega), wr_in (by omega)]
  refine ⟨?_, ?_, ?_, ?_⟩ <;> split <;> omega
theorem rngE_0 {a b lo hi : Int} (h : lo ≤ a ∧ a ≤ b ∧ b ≤ hi) : rngE a b lo hi = 0 := by
  unfold rngE
  rw [if_neg (by omega), if_neg (by omega), if_neg (by omega)]
theorem numE_0 {a lo hi : Int} (h : lo ≤ a ∧ a ≤ hi) : numE a lo hi = 0 := by
  unfold numE
  rw [if_neg (by omega)]
theorem check_0 {J : Jb} (p : -60 ≤ J.p1 ∧ J.p1 ≤ J.p2 ∧ J.p2 ≤ 60) (t : 0 ≤ J.t1 ∧ J.t1 ≤ J.t2 ∧ J.t2 ≤ 100) (r : 0 ≤ J.r1 ∧ J.r1 ≤ J.r2 ∧ J.r2 ≤ 100) (u : 0 ≤ J.u1 ∧ J.u1 ≤ J.u2 ∧ J.u2 ≤ 12) (d : 0 ≤ J.d1 ∧ J.d1 ≤ J.d2 ∧ J.d2 ≤ 12) (x : 0 ≤ J.x1 ∧ J.x1 ≤ J.x2 ∧ J.x2 ≤ 12) (y : 0 ≤ J.y1 ∧ J.y1 ≤ J.y2 ∧ J.y2 ≤ 12)
    (l : 0 ≤ J.le ∧ J.le ≤ 100) (n : J.sh.length ≤ 4) (sh : ∀ q ∈ J.sh, -60 ≤ q.1 ∧ q.1 ≤ q.2 ∧ q.2 ≤ 60) (wi : 0 ≤ J.wi ∧ J.wi ≤ 60) (me : 0 ≤ J.me ∧ J.me ≤ 6) : J.check = 0 := by
  have hh : J.head = 0 := by
    unfold Jb.head
    rw [rngE_0 p, rngE_0 t, rngE_0 r, rngE_0 u, rngE_0 d, rngE_0 x, rngE_0 y, numE_0 l]
    rfl
  have hs : ∀ q : List R2, (∀ z ∈ q, -60 ≤ z.1 ∧ z.1 ≤ z.2 ∧ z.2 ≤ 60) → shE q = 0 := by
    intro q
    induction q with
    | nil => intro _; rfl
    | cons z q ih =>
      intro h
      unfold shE
      rw [if_pos (rngE_0 (h z List.mem_cons_self))]
      exact ih fun z hz => h z (List.mem_cons_of_mem _ hz)
  unfold Jb.check
  rw [if_pos hh, if_neg (by omega), if_pos (hs _ sh), numE_0 wi, numE_0 me]
  rfl
def jobS (s : Int) : List R2 := [(nlo (-60) (wr (-3 + res40 s)) (res42 s), nhi 60 (wr (-3 + res40 s)) (res44 s)), (nlo (-60) (wr (-3 + res45 s)) (res47 s), nhi 60 (wr (-3 + res45 s)) (res49 s)), (nlo (-60) (wr (-3 + res50 s)) (res52 s), nhi 60 (wr (-3 + res50 s)) (res54 s))]
def jobJ (s : Int) (n : Nat) : Jb := ⟨nlo (-60) (wr (-16 + res3 s)) (res5 s), nhi 60 (wr (-16 + res3 s)) (res7 s), nlo (0) (wr (20 + res8 s)) (res10 s), nhi 100 (wr (20 + res8 s)) (res12 s), nlo (0) (wr (20 + res13 s)) (res15 s), nhi 100 (wr (20 + res13 s)) (res17 s), nlo (0) (wr (1 + res18 s)) (res20 s), nhi 12 (wr (1 + res18 s)) (res22 s), nlo (0) (wr (1 + res23 s)) (res25 s), nhi 12 (wr (1 + res23 s)) (res27 s), nlo (0) (res28 s) (res30 s), nhi 12 (res28 s) (res32 s), nlo (0) (res33 s) (res35 s), nhi 12 (res33 s) (res37 s), wr (10 + res38 s), wr (1 + res0 s), res2 s, (jobS s).take n⟩
theorem nrA {lo hi k m a c M A C : Int} (hk : (-100 ≤ lo ∧ hi ≤ 100) ∧ (lo ≤ k ∧ k + M ≤ hi) ∧ (0 ≤ M ∧ M ≤ 50) ∧ (A ≤ 100 ∧ C ≤ 100)) (hm : 0 ≤ m ∧ m ≤ M) (ha : 0 ≤ a ∧ a ≤ A) (hc : 0 ≤ c ∧ c ≤ C) : lo ≤ nlo lo (wr (k + m)) a ∧ nlo lo (wr (k + m)) a ≤ nhi hi (wr (k + m)) c ∧ nhi hi (wr (k + m)) c ≤ hi := by
  rw [wr_in (by omega)]
  have := near_ok (least := lo) (n := k + m) (most := hi) (a := a) (b := c) (by omega) (by omega) (by omega)
  omega
theorem nrB {lo hi m a c M A C : Int} (hk : (-100 ≤ lo ∧ hi ≤ 100) ∧ (lo ≤ 0 ∧ M ≤ hi) ∧ (A ≤ 100 ∧ C ≤ 100)) (hm : 0 ≤ m ∧ m ≤ M) (ha : 0 ≤ a ∧ a ≤ A) (hc : 0 ≤ c ∧ c ≤ C) : lo ≤ nlo lo m a ∧ nlo lo m a ≤ nhi hi m c ∧ nhi hi m c ≤ hi := by
  have := near_ok (least := lo) (n := m) (most := hi) (a := a) (b := c) (by omega) (by omega) (by omega)
  omega
theorem wrA {k m M lo hi : Int} (hk : (lo ≤ k ∧ k + M ≤ hi) ∧ (-100 ≤ lo ∧ hi ≤ 100)) (hm : 0 ≤ m ∧ m ≤ M) : lo ≤ wr (k + m) ∧ wr (k + m) ≤ hi := by
  rw [wr_in (by omega)]; omega
theorem job_sh (s : Int) : ∀ z ∈ jobS s, -60 ≤ z.1 ∧ z.1 ≤ z.2 ∧ z.2 ≤ 60 := by
  intro z hz
  simp only [jobS, List.mem_cons, List.not_mem_nil, or_false] at hz
  rcases hz with rfl | rfl | rfl
  · exact (nrA (by decide) (rb40 s) (rb42 s) (rb44 s))
  · exact (nrA (by decide) (rb45 s) (rb47 s) (rb49 s))
  · exact (nrA (by decide) (rb50 s) (rb52 s) (rb54 s))
theorem job_check (s : Int) (n : Nat) : (jobJ s n).check = 0 :=
  check_0 (nrA (by decide) (rb3 s) (rb5 s) (rb7 s)) (nrA (by decide) (rb8 s) (rb10 s) (rb12 s)) (nrA (by decide) (rb13 s) (rb15 s) (rb17 s)) (nrA (by decide) (rb18 s) (rb20 s) (rb22 s)) (nrA (by decide) (rb23 s) (rb25 s) (rb27 s)) (nrB (by decide) (rb28 s) (rb30 s) (rb32 s)) (nrB (by decide) (rb33 s) (rb35 s) (rb37 s)) (wrA (by decide) (rb38 s)) (by show ((jobS s).take n).length ≤ 4; have : (jobS s).length = 3 := rfl; rw [List.length_take]; omega) (fun z hz => job_sh s z (List.mem_of_mem_take hz)) (wrA (by decide) (rb0 s)) (by have := rb2 s; show 0 ≤ res2 s ∧ res2 s ≤ 6; omega)
end
end Go.Sim.JC
/- Contracts of what a pot hands out: which numbers, and what is changed. -/
namespace Go.Proofs.Ytbbekjcldbbhiaa
set_option linter.all false
open Go.RowKit

/-- Block b is a pot. -/
def Pt (w : World) (b : Nat) : Prop := ∃ t s, Bk w b t #[.int .u64 s]
/-- Of what lay under B, the pot alone may have been changed. -/
structure PB (b B : Nat) (w w' : World) : Prop where
  os : w'.os = w.os
  tape : w'.tape = w.tape
  output : w'.output = w.output
  size : w.heap.size ≤ w'.heap.size
  heap : ∀ k, k < B → k ≠ b → w'.heap[k]? = w.heap[k]?
section
variable {b B B' : Nat} {w w' w'' : World} {t : TypeId} {s : Int} {p : Addr}
theorem Pt.lt (h : Pt w b) : b < w.heap.size := by obtain ⟨t, s, h⟩ := h; exact h.lt
theorem Pt.alloc (h : Pt w b) (o : Obj) : Pt (w.alloc o) b := by obtain ⟨t, s, h⟩ := h; exact ⟨t, s, h.alloc o⟩
theorem Pt.drew (h : Pt w b) : Pt w.drew b := h
theorem Pt.other (h : Pt w b) (hp : b ≠ p.block) (u : Value) : Pt (w.setCell p u) b := by obtain ⟨t, s, h⟩ := h; exact ⟨t, s, h.other hp u⟩
theorem Pt.below (h : Pt w b) (hb : Below B w w') (hg : b < B) : Pt w' b := by obtain ⟨t, s, h⟩ := h; exact ⟨t, s, h.below hb hg⟩
theorem Pt.grown {row : Option Nat} (h : Pt w b) (hb : w.grownBy w' row) (hg : some b ≠ row) : Pt w' b := by obtain ⟨t, s, h⟩ := h; exact ⟨t, s, h.grown hb hg⟩
theorem PB.refl (b B : Nat) (w : World) : PB b B w w := ⟨rfl, rfl, rfl, Nat.le_refl _, fun _ _ _ => rfl⟩
theorem PB.trans (h : PB b B w w') (h' : PB b B' w' w'') (hB : B ≤ B') : PB b B w w'' := ⟨h'.os.trans h.os, h'.tape.trans h.tape, h'.output.trans h.output, Nat.le_trans h.size h'.size, fun k hk hb => (h'.heap k (Nat.lt_of_lt_of_le hk hB) hb).trans (h.heap k hk hb)⟩
theorem PB.below (h : PB b B w w') (h' : Below B' w' w'') (hB : B ≤ B') : PB b B w w'' := ⟨h'.os.trans h.os, h'.tape.trans h.tape, h'.output.trans h.output, Nat.le_trans h.size h'.size, fun k hk hb => (h'.block k (Nat.lt_of_lt_of_le hk hB)).trans (h.heap k hk hb)⟩
theorem PB.of (h : Below B w w') : PB b B w w' := ⟨h.os, h.tape, h.output, h.size, fun k hk _ => h.block k hk⟩
theorem PB.toBelow (h : PB b B w w') (hB : B ≤ b) : Below B w w' := ⟨h.os, h.tape, h.output, h.size, fun k hk => h.heap k hk (by omega)⟩
theorem PB.mono (h : PB b B w w') (hB : B' ≤ B) : PB b B' w w' := ⟨h.os, h.tape, h.output, h.size, fun k hk => h.heap k (by omega)⟩
theorem PB.alloc (h : PB b B w w') (hB : B ≤ w'.heap.size) (o : Obj) : PB b B w (w'.alloc o) := h.below ((Below.refl _ _).alloc hB o) (Nat.le_refl _)
theorem PB.setCell (h : PB b B w w') (hp : B ≤ p.block) (u : Value) : PB b B w (w'.setCell p u) := h.below ((Below.refl _ _).setCell hp u) (Nat.le_refl _)
/-- Blocks, ranges and numbers that are no pot are as they were. -/
theorem Bk.pb {g : Nat} {cs : Array Value} (h : Bk w g t cs) (hk : PB b B w w') (hg : g < B) (hb : g ≠ b) : Bk w' g t cs := (hk.heap g hg hb).trans h
theorem Pt.cell {i : Nat} {v : Value} (h : Pt w b) (hc : w.cell? ⟨b, i, none⟩ = some v) : ∃ s, v = .int .u64 s := by
  obtain ⟨t, s, h⟩ := h
  rw [cell_of_row w b i _ t (0, 0) h] at hc
  cases i with
  | zero => exact ⟨s, by simpa using hc.symm⟩
  | succ i => simp at hc
theorem PB.cell (h : PB b B w w') (hp : p.block < B) (hb : p.block ≠ b) : w'.cell? p = w.cell? p := World.cell?_of_block (h.heap _ hp hb)
theorem Rg.pb {a : Option Addr} {l : List R2} (h : Rg w w.heap.size a l) (hp : Pt w b) (hk : PB b w.heap.size w w') : Rg w' w'.heap.size a l := fun k r hr => by
  obtain ⟨g, off, e, hg, h1, h2⟩ := h k r hr
  have hne : g ≠ b := by
    rintro rfl
    obtain ⟨s, e⟩ := hp.cell h1
    cases e
  have := hk.size
  exact ⟨g, off, e, by omega, (hk.cell hg hne).trans h1, (hk.cell hg hne).trans h2⟩
theorem Is.pb {a : Option Addr} {l : List Int} (h : Is w w.heap.size a l) (hp : Pt w b) (hk : PB b w.heap.size w w') : Is w' w'.heap.size a l := fun k r hr => by
  obtain ⟨g, off, e, hg, h1⟩ := h k r hr
  have hne : g ≠ b := by
    rintro rfl
    obtain ⟨s, e⟩ := hp.cell h1
    cases e
  have := hk.size
  exact ⟨g, off, e, by omega, (hk.cell hg hne).trans h1⟩
theorem Put.pb {s' : Int} (hb : Bk w b t #[.int .u64 s]) (h : Put w w' b s s') : PB b w.heap.size w w' ∧ Pt w' b := by
  rcases h with rfl | ⟨rfl, _⟩
  · exact ⟨⟨rfl, rfl, rfl, by simp, fun k hk hkb => Below.heap_setCell w _ _ k hkb⟩, t, s', hb.put1 _⟩
  · exact ⟨PB.refl _ _ _, t, s, hb⟩
end

end Go.Proofs.Ytbbekjcldbbhiaa
/- The contract of musettekit.SameInts. -/
namespace Go.Proofs.Ytbbekjcldbbhiaa
set_option linter.all false
open Go.RowKit

theorem below_drewN {B : Nat} {a w : World} (h : Below B a w) (n : Nat) : Below B a (w.drewN n) := ⟨h.os, h.tape, h.output, h.size, h.block⟩

set_option maxHeartbeats 1000000 in
theorem sameInts_any (a b : Option Addr) (n c m d : Nat) (l p : List Int) (w : World) (hn : n = l.length) (hm : m = p.length) (h1 : n ≤ 1000) (h2 : m ≤ 1000) (hl : Is w w.heap.size a l) (hp : Is w w.heap.size b p) :
    Calls Try.prog 11 #[.slice a n c, .slice b m d] w fun e w' => e = .returned (.bool (decide (l = p))) ∧ Below w.heap.size w w' := by
  have Hn : Hid (n = l.length) := hn
  have Hm : Hid (m = p.length) := hm
  have Hl := hidMk hl
  have Hp := hidMk hp
  clear hn hm hl hp
  by_cases e0 : n = m
  · subst e0
    go_enter Try.func11, Try.ntmps11
    go_wp2
    go_loopw [5, 6] (fun s i wr => ∃ (k : Nat) (v : Bool), k ≤ n ∧ s = .bool v ∧ i = .int .i64 k ∧ Hid (v = true → l.take k = p.take k) ∧ Hid (v = false → l ≠ p) ∧ Below w.heap.size w wr) (fun _ i _ => n - (intOf i).toNat)
    case atStart => exact ⟨0, true, Nat.zero_le _, by simp, rfl, hidMk (fun _ => rfl), hidMk (fun h => by cases h), Below.refl _ _⟩
    case round =>
      obtain ⟨k, v, hk, rfl, rfl, Ht, Hf, hB⟩ := hrel
      have hs := hB.size
      cases v
      · go_wp2
        go_ret
        exact ⟨ret_b (by rw [decide_eq_false (Hf.out (by simp))]), hB⟩
      · by_cases hlt : k < n
        · have k1 : k < l.length := by rw [← Hn.out]; exact hlt
          have k2 : k < p.length := by rw [← Hm.out]; exact hlt
          obtain ⟨b1, o1, rfl, hb1, e1⟩ := Hl.out k l[k] (List.getElem?_eq_getElem k1)
          obtain ⟨b2, o2, rfl, hb2, e2⟩ := Hp.out k p[k] (List.getElem?_eq_getElem k2)
          replace e1 := (hB.cell (p := ⟨b1, o1 + k, none⟩) hb1).trans e1
          replace e2 := (hB.cell (p := ⟨b2, o2 + k, none⟩) hb2).trans e2
          obtain ⟨x, Hx⟩ : ∃ x, Hid (x = l[k]) := ⟨_, hidMk rfl⟩
          obtain ⟨y, Hy⟩ : ∃ y, Hid (y = p[k]) := ⟨_, hidMk rfl⟩
          rw [← Hx.out] at e1
          rw [← Hy.out] at e2
          have i1 : (k : Int) < (n : Int) := by omega
          have i2 : (0 : Int) ≤ (k : Int) := by omega
          go_wp2
          go_quiet (fail)
          go_wp2
          go_roundw
          case rel =>
            refine ⟨k + 1, (x == y), by omega, rfl, by go_num, hidMk (fun h => ?_), hidMk (fun h => ?_), below_drewN hB _⟩
            · have hxy : x = y := by simpa using h
              rw [take_snoc l k k1, take_snoc p k k2, Ht.out (by simp), ← Hx.out, ← Hy.out, hxy]
            · intro hlp
              have hxy : x ≠ y := by simpa using h
              apply hxy
              rw [Hx.out, Hy.out]
              simp only [hlp]
          case measure => simp [intOf]; omega
        · obtain rfl : k = n := by omega
          go_wp2
          go_ret
          have e : l = p := by
            have := Ht.out (by simp)
            rw [List.take_of_length_le (by rw [← Hn.out]; omega), List.take_of_length_le (by rw [← Hm.out]; omega)] at this
            exact this
          exact ⟨ret_b (by rw [decide_eq_true e]), hB⟩
  · have hb : ((n : Int) == (m : Int)) = false := by rw [beq_eq_false_iff_ne]; omega
    have He : Hid (l ≠ p) := by
      intro h
      apply e0
      rw [Hn.out, Hm.out, h]
    clear e0
    go_enter Try.func11, Try.ntmps11
    go_wp2
    refine wp_loop_rounds 1 ?_
    rw [rounds_succ]
    go_wp2
    go_ret
    exact ⟨ret_b (by rw [decide_eq_false He.out]), Below.refl _ _⟩
end Go.Proofs.Ytbbekjcldbbhiaa
