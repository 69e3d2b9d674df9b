/- What a pot makes a job of: plain facts. -/
import Derived.Test.YtkimdnckbdeekaaPotG
import Derived.Test.YtkimdnckbdeekaaWindow
namespace Go.Sim
set_option linter.all false
open Go Go.RowKit Go.Proofs Go.Proofs.Ytkimdnckbdeekaa
set_option maxRecDepth 1000000
noncomputable section
def seedAt (s : Int) : Nat → Int
  | 0 => s
  | i + 1 => stepS (seedAt s i)
def res0 (s : Int) : Int := uptoF (seedAt s 0) 5
def res1 (s : Int) : Int := uptoF (seedAt s 1) 3
def res2 (s : Int) : Int := pick3 0 1 (uptoF (seedAt s 1) 3) (uptoF (seedAt s 2) 2)
def res3 (s : Int) : Int := uptoF (seedAt s 3) 32
def res4 (s : Int) : Int := uptoF (seedAt s 4) 5
def res5 (s : Int) : Int := pick3 0 0 (uptoF (seedAt s 4) 5) (uptoF (seedAt s 5) 2)
def res6 (s : Int) : Int := uptoF (seedAt s 6) 5
def res7 (s : Int) : Int := pick3 0 0 (uptoF (seedAt s 6) 5) (uptoF (seedAt s 7) 2)
def res8 (s : Int) : Int := uptoF (seedAt s 8) 20
def res9 (s : Int) : Int := uptoF (seedAt s 9) 2
def res10 (s : Int) : Int := pick3 0 0 (uptoF (seedAt s 9) 2) (uptoF (seedAt s 10) 2)
def res11 (s : Int) : Int := uptoF (seedAt s 11) 2
def res12 (s : Int) : Int := pick3 0 0 (uptoF (seedAt s 11) 2) (uptoF (seedAt s 12) 2)
def res13 (s : Int) : Int := uptoF (seedAt s 13) 20
def res14 (s : Int) : Int := uptoF (seedAt s 14) 2
def res15 (s : Int) : Int := pick3 0 0 (uptoF (seedAt s 14) 2) (uptoF (seedAt s 15) 2)
def res16 (s : Int) : Int := uptoF (seedAt s 16) 2
def res17 (s : Int) : Int := pick3 0 0 (uptoF (seedAt s 16) 2) (uptoF (seedAt s 17) 2)
def res18 (s : Int) : Int := uptoF (seedAt s 18) 5
def res19 (s : Int) : Int := uptoF (seedAt s 19) 2
def res20 (s : Int) : Int := pick3 0 0 (uptoF (seedAt s 19) 2) (uptoF (seedAt s 20) 2)
def res21 (s : Int) : Int := uptoF (seedAt s 21) 2
def res22 (s : Int) : Int := pick3 0 0 (uptoF (seedAt s 21) 2) (uptoF (seedAt s 22) 2)
def res23 (s : Int) : Int := uptoF (seedAt s 23) 5
def res24 (s : Int) : Int := uptoF (seedAt s 24) 2
def res25 (s : Int) : Int := pick3 0 0 (uptoF (seedAt s 24) 2) (uptoF (seedAt s 25) 2)
def res26 (s : Int) : Int := uptoF (seedAt s 26) 2
def res27 (s : Int) : Int := pick3 0 0 (uptoF (seedAt s 26) 2) (uptoF (seedAt s 27) 2)
def res28 (s : Int) : Int := uptoF (seedAt s 28) 4
def res29 (s : Int) : Int := uptoF (seedAt s 29) 1
def res30 (s : Int) : Int := pick3 0 0 (uptoF (seedAt s 29) 1) (uptoF (seedAt s 30) 2)
def res31 (s : Int) : Int := uptoF (seedAt s 31) 1
def res32 (s : Int) : Int := pick3 0 0 (uptoF (seedAt s 31) 1) (uptoF (seedAt s 32) 2)
def res33 (s : Int) : Int := uptoF (seedAt s 33) 4
def res34 (s : Int) : Int := uptoF (seedAt s 34) 1
def res35 (s : Int) : Int := pick3 0 0 (uptoF (seedAt s 34) 1) (uptoF (seedAt s 35) 2)
def res36 (s : Int) : Int := uptoF (seedAt s 36) 1
def res37 (s : Int) : Int := pick3 0 0 (uptoF (seedAt s 36) 1) (uptoF (seedAt s 37) 2)
def res38 (s : Int) : Int := uptoF (seedAt s 38) 20
def res39 (s : Int) : Int := uptoF (seedAt s 39) 3
def res40 (s : Int) : Int := uptoF (seedAt s 40) 6
def res41 (s : Int) : Int := uptoF (seedAt s 41) 2
def res42 (s : Int) : Int := pick3 0 0 (uptoF (seedAt s 41) 2) (uptoF (seedAt s 42) 2)
def res43 (s : Int) : Int := uptoF (seedAt s 43) 2
def res44 (s : Int) : Int := pick3 0 0 (uptoF (seedAt s 43) 2) (uptoF (seedAt s 44) 2)
def res45 (s : Int) : Int := uptoF (seedAt s 45) 6
def res46 (s : Int) : Int := uptoF (seedAt s 46) 2
def res47 (s : Int) : Int := pick3 0 0 (uptoF (seedAt s 46) 2) (uptoF (seedAt s 47) 2)
def res48 (s : Int) : Int := uptoF (seedAt s 48) 2
def res49 (s : Int) : Int := pick3 0 0 (uptoF (seedAt s 48) 2) (uptoF (seedAt s 49) 2)
def res50 (s : Int) : Int := uptoF (seedAt s 50) 6
def res51 (s : Int) : Int := uptoF (seedAt s 51) 2
def res52 (s : Int) : Int := pick3 0 0 (uptoF (seedAt s 51) 2) (uptoF (seedAt s 52) 2)
def res53 (s : Int) : Int := uptoF (seedAt s 53) 2
def res54 (s : Int) : Int := pick3 0 0 (uptoF (seedAt s 53) 2) (uptoF (seedAt s 54) 2)
def resL (s : Int) : List Int := [res0 s, res1 s, res2 s, res3 s, res4 s, res5 s, res6 s, res7 s, res8 s, res9 s, res10 s, res11 s, res12 s, res13 s, res14 s, res15 s, res16 s, res17 s, res18 s, res19 s, res20 s, res21 s, res22 s, res23 s, res24 s, res25 s, res26 s, res27 s, res28 s, res29 s, res30 s, res31 s, res32 s, res33 s, res34 s, res35 s, res36 s, res37 s, res38 s, res39 s, res40 s, res41 s, res42 s, res43 s, res44 s, res45 s, res46 s, res47 s, res48 s, res49 s, res50 s, res51 s, res52 s, res53 s, res54 s]
def nthZ : List Int → Nat → Option Int
  | [], _ => none
  | x :: _, 0 => some x
  | _ :: l, i + 1 => nthZ l i
def resAt (s : Int) (i : Nat) : Int := match nthZ (resL s) i with
  | some x => x
  | none => 0
abbrev jobRho (s : Int) : Rho := ⟨fun k => match Nat.blt k 100 with
  | true => seedAt s k
  | false => resAt s (k - 100), fun _ => .nilFunc, 0, fun _ => none⟩
theorem upB (x m : Int) (h : 0 ≤ m ∧ m ≤ 1000) : 0 ≤ uptoF x m ∧ uptoF x m ≤ m := by
  have := uptoF_in x m h.2
  omega
theorem pkB (a b c u m : Int) (ha : 0 ≤ a ∧ a ≤ m) (hb : 0 ≤ b ∧ b ≤ m) (hc : 0 ≤ c ∧ c ≤ m) : 0 ≤ pick3 a b c u ∧ pick3 a b c u ≤ m := by
  unfold pick3
  by_cases h0 : u = 0
  · rw [if_pos h0]; exact ha
  · rw [if_neg h0]
    by_cases h1 : u = 1
    · rw [if_pos h1]; exact hb
    · rw [if_neg h1]; exact hc
theorem rb0 (s : Int) : 0 ≤ res0 s ∧ res0 s ≤ 5 := upB _ _ (by decide)
theorem rb1 (s : Int) : 0 ≤ res1 s ∧ res1 s ≤ 3 := upB _ _ (by decide)
theorem rb2 (s : Int) : 0 ≤ res2 s ∧ res2 s ≤ 3 := pkB _ _ _ _ _ (by decide) (by decide) (upB _ _ (by decide))
theorem rb3 (s : Int) : 0 ≤ res3 s ∧ res3 s ≤ 32 := upB _ _ (by decide)
theorem rb4 (s : Int) : 0 ≤ res4 s ∧ res4 s ≤ 5 := upB _ _ (by decide)
theorem rb5 (s : Int) : 0 ≤ res5 s ∧ res5 s ≤ 5 := pkB _ _ _ _ _ (by decide) (by decide) (upB _ _ (by decide))
theorem rb6 (s : Int) : 0 ≤ res6 s ∧ res6 s ≤ 5 := upB _ _ (by decide)
theorem rb7 (s : Int) : 0 ≤ res7 s ∧ res7 s ≤ 5 := pkB _ _ _ _ _ (by decide) (by decide) (upB _ _ (by decide))
theorem rb8 (s : Int) : 0 ≤ res8 s ∧ res8 s ≤ 20 := upB _ _ (by decide)
theorem rb9 (s : Int) : 0 ≤ res9 s ∧ res9 s ≤ 2 := upB _ _ (by decide)
theorem rb10 (s : Int) : 0 ≤ res10 s ∧ res10 s ≤ 2 := pkB _ _ _ _ _ (by decide) (by decide) (upB _ _ (by decide))
theorem rb11 (s : Int) : 0 ≤ res11 s ∧ res11 s ≤ 2 := upB _ _ (by decide)
theorem rb12 (s : Int) : 0 ≤ res12 s ∧ res12 s ≤ 2 := pkB _ _ _ _ _ (by decide) (by decide) (upB _ _ (by decide))
theorem rb13 (s : Int) : 0 ≤ res13 s ∧ res13 s ≤ 20 := upB _ _ (by decide)
theorem rb14 (s : Int) : 0 ≤ res14 s ∧ res14 s ≤ 2 := upB _ _ (by decide)
theorem rb15 (s : Int) : 0 ≤ res15 s ∧ res15 s ≤ 2 := pkB _ _ _ _ _ (by decide) (by decide) (upB _ _ (by decide))
theorem rb16 (s : Int) : 0 ≤ res16 s ∧ res16 s ≤ 2 := upB _ _ (by decide)
theorem rb17 (s : Int) : 0 ≤ res17 s ∧ res17 s ≤ 2 := pkB _ _ _ _ _ (by decide) (by decide) (upB _ _ (by decide))
theorem rb18 (s : Int) : 0 ≤ res18 s ∧ res18 s ≤ 5 := upB _ _ (by decide)
theorem rb19 (s : Int) : 0 ≤ res19 s ∧ res19 s ≤ 2 := upB _ _ (by decide)
theorem rb20 (s : Int) : 0 ≤ res20 s ∧ res20 s ≤ 2 := pkB _ _ _ _ _ (by decide) (by decide) (upB _ _ (by decide))
theorem rb21 (s : Int) : 0 ≤ res21 s ∧ res21 s ≤ 2 := upB _ _ (by decide)
theorem rb22 (s : Int) : 0 ≤ res22 s ∧ res22 s ≤ 2 := pkB _ _ _ _ _ (by decide) (by decide) (upB _ _ (by decide))
theorem rb23 (s : Int) : 0 ≤ res23 s ∧ res23 s ≤ 5 := upB _ _ (by decide)
theorem rb24 (s : Int) : 0 ≤ res24 s ∧ res24 s ≤ 2 := upB _ _ (by decide)
theorem rb25 (s : Int) : 0 ≤ res25 s ∧ res25 s ≤ 2 := pkB _ _ _ _ _ (by decide) (by decide) (upB _ _ (by decide))
theorem rb26 (s : Int) : 0 ≤ res26 s ∧ res26 s ≤ 2 := upB _ _ (by decide)
theorem rb27 (s : Int) : 0 ≤ res27 s ∧ res27 s ≤ 2 := pkB _ _ _ _ _ (by decide) (by decide) (upB _ _ (by decide))
theorem rb28 (s : Int) : 0 ≤ res28 s ∧ res28 s ≤ 4 := upB _ _ (by decide)
theorem rb29 (s : Int) : 0 ≤ res29 s ∧ res29 s ≤ 1 := upB _ _ (by decide)
theorem rb30 (s : Int) : 0 ≤ res30 s ∧ res30 s ≤ 1 := pkB _ _ _ _ _ (by decide) (by decide) (upB _ _ (by decide))
theorem rb31 (s : Int) : 0 ≤ res31 s ∧ res31 s ≤ 1 := upB _ _ (by decide)
theorem rb32 (s : Int) : 0 ≤ res32 s ∧ res32 s ≤ 1 := pkB _ _ _ _ _ (by decide) (by decide) (upB _ _ (by decide))
theorem rb33 (s : Int) : 0 ≤ res33 s ∧ res33 s ≤ 4 := upB _ _ (by decide)
theorem rb34 (s : Int) : 0 ≤ res34 s ∧ res34 s ≤ 1 := upB _ _ (by decide)
theorem rb35 (s : Int) : 0 ≤ res35 s ∧ res35 s ≤ 1 := pkB _ _ _ _ _ (by decide) (by decide) (upB _ _ (by decide))
theorem rb36 (s : Int) : 0 ≤ res36 s ∧ res36 s ≤ 1 := upB _ _ (by decide)
theorem rb37 (s : Int) : 0 ≤ res37 s ∧ res37 s ≤ 1 := pkB _ _ _ _ _ (by decide) (by decide) (upB _ _ (by decide))
theorem rb38 (s : Int) : 0 ≤ res38 s ∧ res38 s ≤ 20 := upB _ _ (by decide)
theorem rb39 (s : Int) : 0 ≤ res39 s ∧ res39 s ≤ 3 := upB _ _ (by decide)
theorem rb40 (s : Int) : 0 ≤ res40 s ∧ res40 s ≤ 6 := upB _ _ (by decide)
theorem rb41 (s : Int) : 0 ≤ res41 s ∧ res41 s ≤ 2 := upB _ _ (by decide)
theorem rb42 (s : Int) : 0 ≤ res42 s ∧ res42 s ≤ 2 := pkB _ _ _ _ _ (by decide) (by decide) (upB _ _ (by decide))
theorem rb43 (s : Int) : 0 ≤ res43 s ∧ res43 s ≤ 2 := upB _ _ (by decide)
theorem rb44 (s : Int) : 0 ≤ res44 s ∧ res44 s ≤ 2 := pkB _ _ _ _ _ (by decide) (by decide) (upB _ _ (by decide))
theorem rb45 (s : Int) : 0 ≤ res45 s ∧ res45 s ≤ 6 := upB _ _ (by decide)
theorem rb46 (s : Int) : 0 ≤ res46 s ∧ res46 s ≤ 2 := upB _ _ (by decide)
theorem rb47 (s : Int) : 0 ≤ res47 s ∧ res47 s ≤ 2 := pkB _ _ _ _ _ (by decide) (by decide) (upB _ _ (by decide))
theorem rb48 (s : Int) : 0 ≤ res48 s ∧ res48 s ≤ 2 := upB _ _ (by decide)
theorem rb49 (s : Int) : 0 ≤ res49 s ∧ res49 s ≤ 2 := pkB _ _ _ _ _ (by decide) (by decide) (upB _ _ (by decide))
theorem rb50 (s : Int) : 0 ≤ res50 s ∧ res50 s ≤ 6 := upB _ _ (by decide)
theorem rb51 (s : Int) : 0 ≤ res51 s ∧ res51 s ≤ 2 := upB _ _ (by decide)
theorem rb52 (s : Int) : 0 ≤ res52 s ∧ res52 s ≤ 2 := pkB _ _ _ _ _ (by decide) (by decide) (upB _ _ (by decide))
theorem rb53 (s : Int) : 0 ≤ res53 s ∧ res53 s ≤ 2 := upB _ _ (by decide)
theorem rb54 (s : Int) : 0 ≤ res54 s ∧ res54 s ≤ 2 := pkB _ _ _ _ _ (by decide) (by decide) (upB _ _ (by decide))
abbrev wr (x : Int) : Int := IntKind.i64.wrap x
theorem wr_in {x : Int} (h : -1000 ≤ x ∧ x ≤ 1000) : wr x = x := IntWalk.i64_in x (by omega)
def nlo (least n a : Int) : Int := if least < wr (n - a) then wr (n - a) else least
def nhi (most n b : Int) : Int := if wr (n + b) < most then wr (n + b) else most
theorem near_ok {least n most a b : Int} (h1 : -100 ≤ least ∧ least ≤ n ∧ n ≤ most ∧ most ≤ 100) (ha : 0 ≤ a ∧ a ≤ 100) (hb : 0 ≤ b ∧ b ≤ 100) : least ≤ nlo least n a ∧ nlo least n a ≤ n ∧ n ≤ nhi most n b ∧ nhi most n b ≤ most := by
  unfold nlo nhi
  rw [wr_in (by omega), wr_in (by omega)]
  refine ⟨?_, ?_, ?_, ?_⟩ <;> split <;> omega
theorem rngE_0 {a b lo hi : Int} (h : lo ≤ a ∧ a ≤ b ∧ b ≤ hi) : rngE a b lo hi = 0 := by
  unfold rngE
  rw [if_neg (by omega), if_neg (by omega), if_neg (by omega)]
theorem numE_0 {a lo hi : Int} (h : lo ≤ a ∧ a ≤ hi) : numE a lo hi = 0 := by
  unfold numE
  rw [if_neg (by omega)]
theorem check_0 {J : Jb} (p : -60 ≤ J.p1 ∧ J.p1 ≤ J.p2 ∧ J.p2 ≤ 60) (t : 0 ≤ J.t1 ∧ J.t1 ≤ J.t2 ∧ J.t2 ≤ 100) (r : 0 ≤ J.r1 ∧ J.r1 ≤ J.r2 ∧ J.r2 ≤ 100) (u : 0 ≤ J.u1 ∧ J.u1 ≤ J.u2 ∧ J.u2 ≤ 12) (d : 0 ≤ J.d1 ∧ J.d1 ≤ J.d2 ∧ J.d2 ≤ 12) (x : 0 ≤ J.x1 ∧ J.x1 ≤ J.x2 ∧ J.x2 ≤ 12) (y : 0 ≤ J.y1 ∧ J.y1 ≤ J.y2 ∧ J.y2 ≤ 12)
    (l : 0 ≤ J.le ∧ J.le ≤ 100) (n : J.sh.length ≤ 4) (sh : ∀ q ∈ J.sh, -60 ≤ q.1 ∧ q.1 ≤ q.2 ∧ q.2 ≤ 60) (wi : 0 ≤ J.wi ∧ J.wi ≤ 60) (me : 0 ≤ J.me ∧ J.me ≤ 6) : J.check = 0 := by
  have hh : J.head = 0 := by
    unfold Jb.head
    rw [rngE_0 p, rngE_0 t, rngE_0 r, rngE_0 u, rngE_0 d, rngE_0 x, rngE_0 y, numE_0 l]
    rfl
  have hs : ∀ q : List R2, (∀ z ∈ q, -60 ≤ z.1 ∧ z.1 ≤ z.2 ∧ z.2 ≤ 60) → shE q = 0 := by
    intro q
    induction q with
    | nil => intro _; rfl
    | cons z q ih =>
      intro h
      unfold shE
      rw [if_pos (rngE_0 (h z List.mem_cons_self))]
      exact ih fun z hz => h z (List.mem_cons_of_mem _ hz)
  unfold Jb.check
  rw [if_pos hh, if_neg (by omega), if_pos (hs _ sh), numE_0 wi, numE_0 me]
  rfl
def jobS (s : Int) : List R2 := [(nlo (-60) (wr (-3 + res40 s)) (res42 s), nhi 60 (wr (-3 + res40 s)) (res44 s)), (nlo (-60) (wr (-3 + res45 s)) (res47 s), nhi 60 (wr (-3 + res45 s)) (res49 s)), (nlo (-60) (wr (-3 + res50 s)) (res52 s), nhi 60 (wr (-3 + res50 s)) (res54 s))]
def jobJ (s : Int) (n : Nat) : Jb := ⟨nlo (-60) (wr (-16 + res3 s)) (res5 s), nhi 60 (wr (-16 + res3 s)) (res7 s), nlo (0) (wr (20 + res8 s)) (res10 s), nhi 100 (wr (20 + res8 s)) (res12 s), nlo (0) (wr (20 + res13 s)) (res15 s), nhi 100 (wr (20 + res13 s)) (res17 s), nlo (0) (wr (1 + res18 s)) (res20 s), nhi 12 (wr (1 + res18 s)) (res22 s), nlo (0) (wr (1 + res23 s)) (res25 s), nhi 12 (wr (1 + res23 s)) (res27 s), nlo (0) (res28 s) (res30 s), nhi 12 (res28 s) (res32 s), nlo (0) (res33 s) (res35 s), nhi 12 (res33 s) (res37 s), wr (10 + res38 s), wr (1 + res0 s), res2 s, (jobS s).take n⟩
theorem nrA {lo hi k m a c M A C : Int} (hk : (-100 ≤ lo ∧ hi ≤ 100) ∧ (lo ≤ k ∧ k + M ≤ hi) ∧ (0 ≤ M ∧ M ≤ 50) ∧ (A ≤ 100 ∧ C ≤ 100)) (hm : 0 ≤ m ∧ m ≤ M) (ha : 0 ≤ a ∧ a ≤ A) (hc : 0 ≤ c ∧ c ≤ C) : lo ≤ nlo lo (wr (k + m)) a ∧ nlo lo (wr (k + m)) a ≤ nhi hi (wr (k + m)) c ∧ nhi hi (wr (k + m)) c ≤ hi := by
  rw [wr_in (by omega)]
  have := near_ok (least := lo) (n := k + m) (most := hi) (a := a) (b := c) (by omega) (by omega) (by omega)
  omega
theorem nrB {lo hi m a c M A C : Int} (hk : (-100 ≤ lo ∧ hi ≤ 100) ∧ (lo ≤ 0 ∧ M ≤ hi) ∧ (A ≤ 100 ∧ C ≤ 100)) (hm : 0 ≤ m ∧ m ≤ M) (ha : 0 ≤ a ∧ a ≤ A) (hc : 0 ≤ c ∧ c ≤ C) : lo ≤ nlo lo m a ∧ nlo lo m a ≤ nhi hi m c ∧ nhi hi m c ≤ hi := by
  have := near_ok (least := lo) (n := m) (most := hi) (a := a) (b := c) (by omega) (by omega) (by omega)
  omega
theorem wrA {k m M lo hi : Int} (hk : (lo ≤ k ∧ k + M ≤ hi) ∧ (-100 ≤ lo ∧ hi ≤ 100)) (hm : 0 ≤ m ∧ m ≤ M) : lo ≤ wr (k + m) ∧ wr (k + m) ≤ hi := by
  rw [wr_in (by omega)]; omega
theorem job_sh (s : Int) : ∀ z ∈ jobS s, -60 ≤ z.1 ∧ z.1 ≤ z.2 ∧ z.2 ≤ 60 := by
  intro z hz
  simp only [jobS, List.mem_cons, List.not_mem_nil, or_false] at hz
  rcases hz with rfl | rfl | rfl
  · exact (nrA (by decide) (rb40 s) (rb42 s) (rb44 s))
  · exact (nrA (by decide) (rb45 s) (rb47 s) (rb49 s))
  · exact (nrA (by decide) (rb50 s) (rb52 s) (rb54 s))
theorem job_check (s : Int) (n : Nat) : (jobJ s n).check = 0 :=
  check_0 (nrA (by decide) (rb3 s) (rb5 s) (rb7 s)) (nrA (by decide) (rb8 s) (rb10 s) (rb12 s)) (nrA (by decide) (rb13 s) (rb15 s) (rb17 s)) (nrA (by decide) (rb18 s) (rb20 s) (rb22 s)) (nrA (by decide) (rb23 s) (rb25 s) (rb27 s)) (nrB (by decide) (rb28 s) (rb30 s) (rb32 s)) (nrB (by decide) (rb33 s) (rb35 s) (rb37 s)) (wrA (by decide) (rb38 s)) (by show ((jobS s).take n).length ≤ 4; have : (jobS s).length = 3 := rfl; rw [List.length_take]; omega) (fun z hz => job_sh s z (List.mem_of_mem_take hz)) (wrA (by decide) (rb0 s)) (by have := rb2 s; show 0 ≤ res2 s ∧ res2 s ≤ 6; omega)
end
end Go.Sim
