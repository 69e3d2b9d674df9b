/- Part 34 of the proof: JobPJF, JobKJF, JobRJF0, JobRJF1, JobRJF2. -/
import Derived.Test.YtadmcafbffjjbaaB33
import Derived.Test.YtadmcafbffjjbaaB01
import Derived.Test.YtadmcafbffjjbaaB29
/- What a pot makes a job of: plain facts. -/
namespace Go.Sim.JF
set_option linter.all false
open Go Go.RowKit Go.Proofs Go.Proofs.Ytadmcafbffjjbaa
set_option maxRecDepth 1000000
noncomputable section
def seedAt (s : Int) : Nat → Int
  | 0 => s
  | i + 1 => stepS (seedAt s i)
def res0 (s : Int) : Int := uptoF (seedAt s 0) 5
def res1 (s : Int) : Int := uptoF (seedAt s 1) 3
def res2 (s : Int) : Int := pick3 0 1 (uptoF (seedAt s 1) 3) (uptoF (seedAt s 2) 2)
def res3 (s : Int) : Int := uptoF (seedAt s 3) 32
def res4 (s : Int) : Int := uptoF (seedAt s 4) 2
def res5 (s : Int) : Int := pick3 0 0 (uptoF (seedAt s 4) 2) (uptoF (seedAt s 5) 2)
def res6 (s : Int) : Int := uptoF (seedAt s 6) 2
def res7 (s : Int) : Int := pick3 0 0 (uptoF (seedAt s 6) 2) (uptoF (seedAt s 7) 2)
def res8 (s : Int) : Int := uptoF (seedAt s 8) 20
def res9 (s : Int) : Int := uptoF (seedAt s 9) 2
def res10 (s : Int) : Int := pick3 0 0 (uptoF (seedAt s 9) 2) (uptoF (seedAt s 10) 2)
def res11 (s : Int) : Int := uptoF (seedAt s 11) 2
def res12 (s : Int) : Int := pick3 0 0 (uptoF (seedAt s 11) 2) (uptoF (seedAt s 12) 2)
def res13 (s : Int) : Int := uptoF (seedAt s 13) 20
def res14 (s : Int) : Int := uptoF (seedAt s 14) 2
def res15 (s : Int) : Int := pick3 0 0 (uptoF (seedAt s 14) 2) (uptoF (seedAt s 15) 2)
def res16 (s : Int) : Int := uptoF (seedAt s 16) 2
def res17 (s : Int) : Int := pick3 0 0 (uptoF (seedAt s 16) 2) (uptoF (seedAt s 17) 2)
def res18 (s : Int) : Int := uptoF (seedAt s 18) 5
def res19 (s : Int) : Int := uptoF (seedAt s 19) 1
def res20 (s : Int) : Int := pick3 0 0 (uptoF (seedAt s 19) 1) (uptoF (seedAt s 20) 2)
def res21 (s : Int) : Int := uptoF (seedAt s 21) 1
def res22 (s : Int) : Int := pick3 0 0 (uptoF (seedAt s 21) 1) (uptoF (seedAt s 22) 2)
def res23 (s : Int) : Int := uptoF (seedAt s 23) 5
def res24 (s : Int) : Int := uptoF (seedAt s 24) 1
def res25 (s : Int) : Int := pick3 0 0 (uptoF (seedAt s 24) 1) (uptoF (seedAt s 25) 2)
def res26 (s : Int) : Int := uptoF (seedAt s 26) 1
def res27 (s : Int) : Int := pick3 0 0 (uptoF (seedAt s 26) 1) (uptoF (seedAt s 27) 2)
def res28 (s : Int) : Int := uptoF (seedAt s 28) 4
def res29 (s : Int) : Int := uptoF (seedAt s 29) 1
def res30 (s : Int) : Int := pick3 0 0 (uptoF (seedAt s 29) 1) (uptoF (seedAt s 30) 2)
def res31 (s : Int) : Int := uptoF (seedAt s 31) 1
def res32 (s : Int) : Int := pick3 0 0 (uptoF (seedAt s 31) 1) (uptoF (seedAt s 32) 2)
def res33 (s : Int) : Int := uptoF (seedAt s 33) 4
def res34 (s : Int) : Int := uptoF (seedAt s 34) 1
def res35 (s : Int) : Int := pick3 0 0 (uptoF (seedAt s 34) 1) (uptoF (seedAt s 35) 2)
def res36 (s : Int) : Int := uptoF (seedAt s 36) 1
def res37 (s : Int) : Int := pick3 0 0 (uptoF (seedAt s 36) 1) (uptoF (seedAt s 37) 2)
def res38 (s : Int) : Int := uptoF (seedAt s 38) 20
def res39 (s : Int) : Int := uptoF (seedAt s 39) 3
def res40 (s : Int) : Int := uptoF (seedAt s 40) 6
def res41 (s : Int) : Int := uptoF (seedAt s 41) 2
def res42 (s : Int) : Int := pick3 0 0 (uptoF (seedAt s 41) 2) (uptoF (seedAt s 42) 2)
def res43 (s : Int) : Int := uptoF (seedAt s 43) 2
def res44 (s : Int) : Int := pick3 0 0 (uptoF (seedAt s 43) 2) (uptoF (seedAt s 44) 2)
def res45 (s : Int) : Int := uptoF (seedAt s 45) 6
def res46 (s : Int) : Int := uptoF (seedAt s 46) 2
def res47 (s : Int) : Int := pick3 0 0 (uptoF (seedAt s 46) 2) (uptoF (seedAt s 47) 2)
def res48 (s : Int) : Int := uptoF (seedAt s 48) 2
def res49 (s : Int) : Int := pick3 0 0 (uptoF (seedAt s 48) 2) (uptoF (seedAt s 49) 2)
def res50 (s : Int) : Int := uptoF (seedAt s 50) 6
def res51 (s : Int) : Int := uptoF (seedAt s 51) 2
def res52 (s : Int) : Int := pick3 0 0 (uptoF (seedAt s 51) 2) (uptoF (seedAt s 52) 2)
def res53 (s : Int) : Int := uptoF (seedAt s 53) 2
def res54 (s : Int) : Int := pick3 0 0 (uptoF (seedAt s 53) 2) (uptoF (seedAt s 54) 2)
def resL (s : Int) : List Int := [res0 s,res1 s,res2 s,res3 s,res4 s,res5 s,res6 s,res7 s,res8 s,res9 s,res10 s,res11 s,res12 s,res13 s,res14 s,res15 s,res16 s,res17 s,res18 s,res19 s,res20 s,res21 s,res22 s,res23 s,res24 s,res25 s,res26 s,res27 s,res28 s,res29 s,res30 s,res31 s,res32 s,res33 s,res34 s,res35 s,res36 s,res37 s,res38 s,res39 s,res40 s,res41 s,res42 s,res43 s,res44 s,res45 s,res46 s,res47 s,res48 s,res49 s,res50 s,res51 s,res52 s,res53 s,res54 s]
def nthZ : List Int → Nat → Option Int
  | [],_ => none
  | x :: _,0 => some x
  | _ :: l,i + 1 => nthZ l i
def resAt (s : Int) (i : Nat) : Int := match nthZ (resL s) i with
  | some x => x
  | none => 0
@[instance_reducible] def jobRho (s : Int) : Rho := ⟨fun k => match Nat.blt k 100 with
  | true => seedAt s k
  | false => resAt s (k - 100),fun _ => .nilFunc,0,fun _ => none⟩
theorem upB (x m : Int) (h : 0 ≤ m ∧ m ≤ 1000) : 0 ≤ uptoF x m ∧ uptoF x m ≤ m := by
  have := uptoF_in x m h.2
  omega
theorem pkB (a b c u m : Int) (ha : 0 ≤ a ∧ a ≤ m) (hb : 0 ≤ b ∧ b ≤ m) (hc : 0 ≤ c ∧ c ≤ m) : 0 ≤ pick3 a b c u ∧ pick3 a b c u ≤ m := by
  unfold pick3
  by_cases h0 : u = 0
  · rw [if_pos h0]; exact ha
  · rw [if_neg h0]
    by_cases h1 : u = 1
    · rw [if_pos h1]; exact hb
    · rw [if_neg h1]; exact hc
theorem rb0 (s : Int) : 0 ≤ res0 s ∧ res0 s ≤ 5 := upB _ _ (by decide)
theorem rb2 (s : Int) : 0 ≤ res2 s ∧ res2 s ≤ 3 := pkB _ _ _ _ _ (by decide) (by decide) (upB _ _ (by decide))
theorem rb3 (s : Int) : 0 ≤ res3 s ∧ res3 s ≤ 32 := upB _ _ (by decide)
theorem rb5 (s : Int) : 0 ≤ res5 s ∧ res5 s ≤ 2 := pkB _ _ _ _ _ (by decide) (by decide) (upB _ _ (by decide))
theorem rb7 (s : Int) : 0 ≤ res7 s ∧ res7 s ≤ 2 := pkB _ _ _ _ _ (by decide) (by decide) (upB _ _ (by decide))
theorem rb8 (s : Int) : 0 ≤ res8 s ∧ res8 s ≤ 20 := upB _ _ (by decide)
theorem rb10 (s : Int) : 0 ≤ res10 s ∧ res10 s ≤ 2 := pkB _ _ _ _ _ (by decide) (by decide) (upB _ _ (by decide))
theorem rb12 (s : Int) : 0 ≤ res12 s ∧ res12 s ≤ 2 := pkB _ _ _ _ _ (by decide) (by decide) (upB _ _ (by decide))
theorem rb13 (s : Int) : 0 ≤ res13 s ∧ res13 s ≤ 20 := upB _ _ (by decide)
theorem rb15 (s : Int) : 0 ≤ res15 s ∧ res15 s ≤ 2 := pkB _ _ _ _ _ (by decide) (by decide) (upB _ _ (by decide))
theorem rb17 (s : Int) : 0 ≤ res17 s ∧ res17 s ≤ 2 := pkB _ _ _ _ _ (by decide) (by decide) (upB _ _ (by decide))
theorem rb18 (s : Int) : 0 ≤ res18 s ∧ res18 s ≤ 5 := upB _ _ (by decide)
theorem rb20 (s : Int) : 0 ≤ res20 s ∧ res20 s ≤ 1 := pkB _ _ _ _ _ (by decide) (by decide) (upB _ _ (by decide))
theorem rb22 (s : Int) : 0 ≤ res22 s ∧ res22 s ≤ 1 := pkB _ _ _ _ _ (by decide) (by decide) (upB _ _ (by decide))
theorem rb23 (s : Int) : 0 ≤ res23 s ∧ res23 s ≤ 5 := upB _ _ (by decide)
theorem rb25 (s : Int) : 0 ≤ res25 s ∧ res25 s ≤ 1 := pkB _ _ _ _ _ (by decide) (by decide) (upB _ _ (by decide))
theorem rb27 (s : Int) : 0 ≤ res27 s ∧ res27 s ≤ 1 := pkB _ _ _ _ _ (by decide) (by decide) (upB _ _ (by decide))
theorem rb28 (s : Int) : 0 ≤ res28 s ∧ res28 s ≤ 4 := upB _ _ (by decide)
theorem rb30 (s : Int) : 0 ≤ res30 s ∧ res30 s ≤ 1 := pkB _ _ _ _ _ (by decide) (by decide) (upB _ _ (by decide))
theorem rb32 (s : Int) : 0 ≤ res32 s ∧ res32 s ≤ 1 := pkB _ _ _ _ _ (by decide) (by decide) (upB _ _ (by decide))
theorem rb33 (s : Int) : 0 ≤ res33 s ∧ res33 s ≤ 4 := upB _ _ (by decide)
theorem rb35 (s : Int) : 0 ≤ res35 s ∧ res35 s ≤ 1 := pkB _ _ _ _ _ (by decide) (by decide) (upB _ _ (by decide))
theorem rb37 (s : Int) : 0 ≤ res37 s ∧ res37 s ≤ 1 := pkB _ _ _ _ _ (by decide) (by decide) (upB _ _ (by decide))
theorem rb38 (s : Int) : 0 ≤ res38 s ∧ res38 s ≤ 20 := upB _ _ (by decide)
theorem rb39 (s : Int) : 0 ≤ res39 s ∧ res39 s ≤ 3 := upB _ _ (by decide)
theorem rb40 (s : Int) : 0 ≤ res40 s ∧ res40 s ≤ 6 := upB _ _ (by decide)
theorem rb42 (s : Int) : 0 ≤ res42 s ∧ res42 s ≤ 2 := pkB _ _ _ _ _ (by decide) (by decide) (upB _ _ (by decide))
theorem rb44 (s : Int) : 0 ≤ res44 s ∧ res44 s ≤ 2 := pkB _ _ _ _ _ (by decide) (by decide) (upB _ _ (by decide))
theorem rb45 (s : Int) : 0 ≤ res45 s ∧ res45 s ≤ 6 := upB _ _ (by decide)
theorem rb47 (s : Int) : 0 ≤ res47 s ∧ res47 s ≤ 2 := pkB _ _ _ _ _ (by decide) (by decide) (upB _ _ (by decide))
theorem rb49 (s : Int) : 0 ≤ res49 s ∧ res49 s ≤ 2 := pkB _ _ _ _ _ (by decide) (by decide) (upB _ _ (by decide))
theorem rb50 (s : Int) : 0 ≤ res50 s ∧ res50 s ≤ 6 := upB _ _ (by decide)
theorem rb52 (s : Int) : 0 ≤ res52 s ∧ res52 s ≤ 2 := pkB _ _ _ _ _ (by decide) (by decide) (upB _ _ (by decide))
theorem rb54 (s : Int) : 0 ≤ res54 s ∧ res54 s ≤ 2 := pkB _ _ _ _ _ (by decide) (by decide) (upB _ _ (by decide))
abbrev wr (x : Int) : Int := IntKind.i64.wrap x
theorem wr_in {x : Int} (h : -1000 ≤ x ∧ x ≤ 1000) : wr x = x := IntWalk.i64_in x (by omega)
def nlo (least n a : Int) : Int := if least < wr (n - a) then wr (n - a) else least
def nhi (most n b : Int) : Int := if wr (n + b) < most then wr (n + b) else most
theorem near_ok {least n most a b : Int} (h1 : -100 ≤ least ∧ least ≤ n ∧ n ≤ most ∧ most ≤ 100) (ha : 0 ≤ a ∧ a ≤ 100) (hb : 0 ≤ b ∧ b ≤ 100) : least ≤ nlo least n a ∧ nlo least n a ≤ n ∧ n ≤ nhi most n b ∧ nhi most n b ≤ most := by
  unfold nlo nhi
  rw [wr_in (by omega),wr_in (by omega)]
  refine ⟨?_,?_,?_,?_⟩ <;> split <;> omega
theorem rngE_0 {a b lo hi : Int} (h : lo ≤ a ∧ a ≤ b ∧ b ≤ hi) : rngE a b lo hi = 0 := by
  unfold rngE
  rw [if_neg (by omega),if_neg (by omega),if_neg (by omega)]
theorem numE_0 {a lo hi : Int} (h : lo ≤ a ∧ a ≤ hi) : numE a lo hi = 0 := by
  unfold numE
  rw [if_neg (by omega)]
theorem check_0 {J : Jb} (p : -60 ≤ J.p1 ∧ J.p1 ≤ J.p2 ∧ J.p2 ≤ 60) (t : 0 ≤ J.t1 ∧ J.t1 ≤ J.t2 ∧ J.t2 ≤ 100) (r : 0 ≤ J.r1 ∧ J.r1 ≤ J.r2 ∧ J.r2 ≤ 100) (u : 0 ≤ J.u1 ∧ J.u1 ≤ J.u2 ∧ J.u2 ≤ 12) (d : 0 ≤ J.d1 ∧ J.d1 ≤ J.d2 ∧ J.d2 ≤ 12) (x : 0 ≤ J.x1 ∧ J.x1 ≤ J.x2 ∧ J.x2 ≤ 12) (y : 0 ≤ J.y1 ∧ J.y1 ≤ J.y2 ∧ J.y2 ≤ 12)
    (l : 0 ≤ J.le ∧ J.le ≤ 100) (n : J.sh.length ≤ 4) (sh : ∀ q ∈ J.sh,-60 ≤ q.1 ∧ q.1 ≤ q.2 ∧ q.2 ≤ 60) (wi : 0 ≤ J.wi ∧ J.wi ≤ 60) (me : 0 ≤ J.me ∧ J.me ≤ 6) : J.check = 0 := by
  have hh : J.head = 0 := by
    unfold Jb.head
    rw [rngE_0 p,rngE_0 t,rngE_0 r,rngE_0 u,rngE_0 d,rngE_0 x,rngE_0 y,numE_0 l]
    rfl
  have hs : ∀ q : List R2,(∀ z ∈ q,-60 ≤ z.1 ∧ z.1 ≤ z.2 ∧ z.2 ≤ 60) → shE q = 0 := by
    intro q
    induction q with
    | nil => intro _; rfl
    | cons z q ih =>
      intro h
      unfold shE
      rw [if_pos (rngE_0 (h z List.mem_cons_self))]
      exact ih fun z hz => h z (List.mem_cons_of_mem _ hz)
  unfold Jb.check
  rw [if_pos hh,if_neg (by omega),if_pos (hs _ sh),numE_0 wi,numE_0 me]
  rfl
def jobS (s : Int) : List R2 := [(nlo (-60) (wr (-3 + res40 s)) (res42 s),nhi 60 (wr (-3 + res40 s)) (res44 s)),(nlo (-60) (wr (-3 + res45 s)) (res47 s),nhi 60 (wr (-3 + res45 s)) (res49 s)),(nlo (-60) (wr (-3 + res50 s)) (res52 s),nhi 60 (wr (-3 + res50 s)) (res54 s))]
def jobJ (s : Int) (n : Nat) : Jb := ⟨nlo (-60) (wr (-16 + res3 s)) (res5 s),nhi 60 (wr (-16 + res3 s)) (res7 s),nlo (0) (wr (20 + res8 s)) (res10 s),nhi 100 (wr (20 + res8 s)) (res12 s),nlo (0) (wr (20 + res13 s)) (res15 s),nhi 100 (wr (20 + res13 s)) (res17 s),nlo (0) (wr (1 + res18 s)) (res20 s),nhi 12 (wr (1 + res18 s)) (res22 s),nlo (0) (wr (1 + res23 s)) (res25 s),nhi 12 (wr (1 + res23 s)) (res27 s),nlo (0) (res28 s) (res30 s),nhi 12 (res28 s) (res32 s),nlo (0) (res33 s) (res35 s),nhi 12 (res33 s) (res37 s),wr (10 + res38 s),wr (1 + res0 s),res2 s,(jobS s).take n⟩
theorem nrA {lo hi k m a c M A C : Int} (hk : (-100 ≤ lo ∧ hi ≤ 100) ∧ (lo ≤ k ∧ k + M ≤ hi) ∧ (0 ≤ M ∧ M ≤ 50) ∧ (A ≤ 100 ∧ C ≤ 100)) (hm : 0 ≤ m ∧ m ≤ M) (ha : 0 ≤ a ∧ a ≤ A) (hc : 0 ≤ c ∧ c ≤ C) : lo ≤ nlo lo (wr (k + m)) a ∧ nlo lo (wr (k + m)) a ≤ nhi hi (wr (k + m)) c ∧ nhi hi (wr (k + m)) c ≤ hi := by
  rw [wr_in (by omega)]
  have := near_ok (least := lo) (n := k + m) (most := hi) (a := a) (b := c) (by omega) (by omega) (by omega)
  omega
theorem nrB {lo hi m a c M A C : Int} (hk : (-100 ≤ lo ∧ hi ≤ 100) ∧ (lo ≤ 0 ∧ M ≤ hi) ∧ (A ≤ 100 ∧ C ≤ 100)) (hm : 0 ≤ m ∧ m ≤ M) (ha : 0 ≤ a ∧ a ≤ A) (hc : 0 ≤ c ∧ c ≤ C) : lo ≤ nlo lo m a ∧ nlo lo m a ≤ nhi hi m c ∧ nhi hi m c ≤ hi := by
  have := near_ok (least := lo) (n := m) (most := hi) (a := a) (b := c) (by omega) (by omega) (by omega)
  omega
theorem wrA {k m M lo hi : Int} (hk : (lo ≤ k ∧ k + M ≤ hi) ∧ (-100 ≤ lo ∧ hi ≤ 100)) (hm : 0 ≤ m ∧ m ≤ M) : lo ≤ wr (k + m) ∧ wr (k + m) ≤ hi := by
  rw [wr_in (by omega)]; omega
theorem job_sh (s : Int) : ∀ z ∈ jobS s,-60 ≤ z.1 ∧ z.1 ≤ z.2 ∧ z.2 ≤ 60 := by
  intro z hz
  simp only [jobS,List.mem_cons,List.not_mem_nil,or_false] at hz
  rcases hz with rfl | rfl | rfl
  · exact (nrA (by decide) (rb40 s) (rb42 s) (rb44 s))
  · exact (nrA (by decide) (rb45 s) (rb47 s) (rb49 s))
  · exact (nrA (by decide) (rb50 s) (rb52 s) (rb54 s))
theorem job_check (s : Int) (n : Nat) : (jobJ s n).check = 0 :=
  check_0 (nrA (by decide) (rb3 s) (rb5 s) (rb7 s)) (nrA (by decide) (rb8 s) (rb10 s) (rb12 s)) (nrA (by decide) (rb13 s) (rb15 s) (rb17 s)) (nrA (by decide) (rb18 s) (rb20 s) (rb22 s)) (nrA (by decide) (rb23 s) (rb25 s) (rb27 s)) (nrB (by decide) (rb28 s) (rb30 s) (rb32 s)) (nrB (by decide) (rb33 s) (rb35 s) (rb37 s)) (wrA (by decide) (rb38 s)) (by show ((jobS s).take n).length ≤ 4; have : (jobS s).length = 3 := rfl; rw [List.length_take]; omega) (fun z hz => job_sh s z (List.mem_of_mem_take hz)) (wrA (by decide) (rb0 s)) (by have := rb2 s; show 0 ≤ res2 s ∧ res2 s ≤ 6; omega)
end
end Go.Sim.JF
/- Pots, as known calls, in a job. -/
namespace Go.Sim.JF
set_option linter.all false
open Go Go.RowKit Go.Proofs Go.Proofs.Ytadmcafbffjjbaa
set_option maxRecDepth 1000000
noncomputable section
def wi0 : Value := .int .i64 (.ofNat (nat_lit 0))
def wi1 : Value := .int .i64 (.ofNat (nat_lit 1))
def wi10 : Value := .int .i64 (.ofNat (nat_lit 10))
def wi100 : Value := .int .i64 (.ofNat (nat_lit 100))
def wi101 : Value := .int .i64 (.ofNat (nat_lit 101))
def wi102 : Value := .int .i64 (.ofNat (nat_lit 102))
def wi103 : Value := .int .i64 (.ofNat (nat_lit 103))
def wi105 : Value := .int .i64 (.ofNat (nat_lit 105))
def wi107 : Value := .int .i64 (.ofNat (nat_lit 107))
def wi108 : Value := .int .i64 (.ofNat (nat_lit 108))
def wi110 : Value := .int .i64 (.ofNat (nat_lit 110))
def wi112 : Value := .int .i64 (.ofNat (nat_lit 112))
def wi113 : Value := .int .i64 (.ofNat (nat_lit 113))
def wi115 : Value := .int .i64 (.ofNat (nat_lit 115))
def wi117 : Value := .int .i64 (.ofNat (nat_lit 117))
def wi118 : Value := .int .i64 (.ofNat (nat_lit 118))
def wi12 : Value := .int .i64 (.ofNat (nat_lit 12))
def wi120 : Value := .int .i64 (.ofNat (nat_lit 120))
def wi122 : Value := .int .i64 (.ofNat (nat_lit 122))
def wi123 : Value := .int .i64 (.ofNat (nat_lit 123))
def wi125 : Value := .int .i64 (.ofNat (nat_lit 125))
def wi127 : Value := .int .i64 (.ofNat (nat_lit 127))
def wi128 : Value := .int .i64 (.ofNat (nat_lit 128))
def wi130 : Value := .int .i64 (.ofNat (nat_lit 130))
def wi132 : Value := .int .i64 (.ofNat (nat_lit 132))
def wi133 : Value := .int .i64 (.ofNat (nat_lit 133))
def wi135 : Value := .int .i64 (.ofNat (nat_lit 135))
def wi137 : Value := .int .i64 (.ofNat (nat_lit 137))
def wi138 : Value := .int .i64 (.ofNat (nat_lit 138))
def wi139 : Value := .int .i64 (.ofNat (nat_lit 139))
def wi140 : Value := .int .i64 (.ofNat (nat_lit 140))
def wi142 : Value := .int .i64 (.ofNat (nat_lit 142))
def wi144 : Value := .int .i64 (.ofNat (nat_lit 144))
def wi145 : Value := .int .i64 (.ofNat (nat_lit 145))
def wi147 : Value := .int .i64 (.ofNat (nat_lit 147))
def wi149 : Value := .int .i64 (.ofNat (nat_lit 149))
def wi150 : Value := .int .i64 (.ofNat (nat_lit 150))
def wi152 : Value := .int .i64 (.ofNat (nat_lit 152))
def wi154 : Value := .int .i64 (.ofNat (nat_lit 154))
def wi20 : Value := .int .i64 (.ofNat (nat_lit 20))
def wi60 : Value := .int .i64 (.ofNat (nat_lit 60))
def wm15 : Value := .int .i64 (.negSucc (nat_lit 15))
def wm2 : Value := .int .i64 (.negSucc (nat_lit 2))
def wm59 : Value := .int .i64 (.negSucc (nat_lit 59))
def wy100 : Value := .func (.yield (nat_lit 0)) ⟨[wi100]⟩ ⟨[]⟩
def wy101 : Value := .func (.yield (nat_lit 0)) ⟨[wi101]⟩ ⟨[]⟩
def wy102 : Value := .func (.yield (nat_lit 0)) ⟨[wi102]⟩ ⟨[]⟩
def wy103 : Value := .func (.yield (nat_lit 0)) ⟨[wi103]⟩ ⟨[]⟩
def wy105 : Value := .func (.yield (nat_lit 0)) ⟨[wi105]⟩ ⟨[]⟩
def wy107 : Value := .func (.yield (nat_lit 0)) ⟨[wi107]⟩ ⟨[]⟩
def wy108 : Value := .func (.yield (nat_lit 0)) ⟨[wi108]⟩ ⟨[]⟩
def wy110 : Value := .func (.yield (nat_lit 0)) ⟨[wi110]⟩ ⟨[]⟩
def wy112 : Value := .func (.yield (nat_lit 0)) ⟨[wi112]⟩ ⟨[]⟩
def wy113 : Value := .func (.yield (nat_lit 0)) ⟨[wi113]⟩ ⟨[]⟩
def wy115 : Value := .func (.yield (nat_lit 0)) ⟨[wi115]⟩ ⟨[]⟩
def wy117 : Value := .func (.yield (nat_lit 0)) ⟨[wi117]⟩ ⟨[]⟩
def wy118 : Value := .func (.yield (nat_lit 0)) ⟨[wi118]⟩ ⟨[]⟩
def wy120 : Value := .func (.yield (nat_lit 0)) ⟨[wi120]⟩ ⟨[]⟩
def wy122 : Value := .func (.yield (nat_lit 0)) ⟨[wi122]⟩ ⟨[]⟩
def wy123 : Value := .func (.yield (nat_lit 0)) ⟨[wi123]⟩ ⟨[]⟩
def wy125 : Value := .func (.yield (nat_lit 0)) ⟨[wi125]⟩ ⟨[]⟩
def wy127 : Value := .func (.yield (nat_lit 0)) ⟨[wi127]⟩ ⟨[]⟩
def wy128 : Value := .func (.yield (nat_lit 0)) ⟨[wi128]⟩ ⟨[]⟩
def wy130 : Value := .func (.yield (nat_lit 0)) ⟨[wi130]⟩ ⟨[]⟩
def wy132 : Value := .func (.yield (nat_lit 0)) ⟨[wi132]⟩ ⟨[]⟩
def wy133 : Value := .func (.yield (nat_lit 0)) ⟨[wi133]⟩ ⟨[]⟩
def wy135 : Value := .func (.yield (nat_lit 0)) ⟨[wi135]⟩ ⟨[]⟩
def wy137 : Value := .func (.yield (nat_lit 0)) ⟨[wi137]⟩ ⟨[]⟩
def wy138 : Value := .func (.yield (nat_lit 0)) ⟨[wi138]⟩ ⟨[]⟩
def wy139 : Value := .func (.yield (nat_lit 0)) ⟨[wi139]⟩ ⟨[]⟩
def wy140 : Value := .func (.yield (nat_lit 0)) ⟨[wi140]⟩ ⟨[]⟩
def wy142 : Value := .func (.yield (nat_lit 0)) ⟨[wi142]⟩ ⟨[]⟩
def wy144 : Value := .func (.yield (nat_lit 0)) ⟨[wi144]⟩ ⟨[]⟩
def wy145 : Value := .func (.yield (nat_lit 0)) ⟨[wi145]⟩ ⟨[]⟩
def wy147 : Value := .func (.yield (nat_lit 0)) ⟨[wi147]⟩ ⟨[]⟩
def wy149 : Value := .func (.yield (nat_lit 0)) ⟨[wi149]⟩ ⟨[]⟩
def wy150 : Value := .func (.yield (nat_lit 0)) ⟨[wi150]⟩ ⟨[]⟩
def wy152 : Value := .func (.yield (nat_lit 0)) ⟨[wi152]⟩ ⟨[]⟩
def wy154 : Value := .func (.yield (nat_lit 0)) ⟨[wi154]⟩ ⟨[]⟩
theorem upK {s : Int} {i r : Nat} {m : Int} [Asm] (hS : @SymOK (jobRho s) _) (hm : 1 ≤ m ∧ m ≤ 1000) (hi : @Rho.ρ (jobRho s) (i + 1) = stepS (@Rho.ρ (jobRho s) i)) (hr : @Rho.ρ (jobRho s) r = uptoF (@Rho.ρ (jobRho s) i) m) : @GWFact (jobRho s) Try.prog (uptoG (nat_lit 0) i (i + 1) r m) :=
  @gwUpto (jobRho s) _ hS _ _ _ _ _ (by kernel_rfl) hm.2 (by rw [hi]; unfold uptoS; rw [if_neg (by omega)]) hr
theorem ofK {s : Int} {i r q : Nat} {a b : Int} [Asm] (hS : @SymOK (jobRho s) _) (hi : @Rho.ρ (jobRho s) (i + 1) = stepS (@Rho.ρ (jobRho s) i)) (hr : @Rho.ρ (jobRho s) r = pick3 a b (@Rho.ρ (jobRho s) q) (uptoF (@Rho.ρ (jobRho s) i) 2)) : @GWFact (jobRho s) Try.prog (ofG (nat_lit 0) i (i + 1) r (.int .i64 a) (.int .i64 b) (sy .i64 q)) :=
  @gwOf (jobRho s) _ hS _ _ _ _ _ _ _ _ _ _ (by kernel_rfl) (@Den.lit (jobRho s) _ _) (@Den.lit (jobRho s) _ _) (@Den.sym (jobRho s) _ _) (by rw [hi]; unfold uptoS; rw [if_neg (by omega)]) hr (fun ι v' k n h u hv => @Den.only (jobRho s) _ hS ι v' u k n h hv)
def pf0 : GenW := uptoG (nat_lit 0) (nat_lit 0) (nat_lit 1) (nat_lit 100) (.ofNat (nat_lit 5))
theorem pf0_ok [Asm] {s : Int} (hS : @SymOK (jobRho s) _) : @GWFact (jobRho s) Try.prog pf0 := upK hS (by decide) rfl rfl
def pf1 : GenW := uptoG (nat_lit 0) (nat_lit 1) (nat_lit 2) (nat_lit 101) (.ofNat (nat_lit 3))
theorem pf1_ok [Asm] {s : Int} (hS : @SymOK (jobRho s) _) : @GWFact (jobRho s) Try.prog pf1 := upK hS (by decide) rfl rfl
def pf2 : GenW := ofG (nat_lit 0) (nat_lit 2) (nat_lit 3) (nat_lit 102) (.int .i64 (.ofNat (nat_lit 0))) (.int .i64 (.ofNat (nat_lit 1))) (sy .i64 (nat_lit 101))
theorem pf2_ok [Asm] {s : Int} (hS : @SymOK (jobRho s) _) : @GWFact (jobRho s) Try.prog pf2 := ofK hS rfl rfl
def pf3 : GenW := uptoG (nat_lit 0) (nat_lit 3) (nat_lit 4) (nat_lit 103) (.ofNat (nat_lit 32))
theorem pf3_ok [Asm] {s : Int} (hS : @SymOK (jobRho s) _) : @GWFact (jobRho s) Try.prog pf3 := upK hS (by decide) rfl rfl
def pf4 : GenW := uptoG (nat_lit 0) (nat_lit 4) (nat_lit 5) (nat_lit 104) (.ofNat (nat_lit 2))
theorem pf4_ok [Asm] {s : Int} (hS : @SymOK (jobRho s) _) : @GWFact (jobRho s) Try.prog pf4 := upK hS (by decide) rfl rfl
def pf5 : GenW := ofG (nat_lit 0) (nat_lit 5) (nat_lit 6) (nat_lit 105) (.int .i64 (.ofNat (nat_lit 0))) (.int .i64 (.ofNat (nat_lit 0))) (sy .i64 (nat_lit 104))
theorem pf5_ok [Asm] {s : Int} (hS : @SymOK (jobRho s) _) : @GWFact (jobRho s) Try.prog pf5 := ofK hS rfl rfl
def pf6 : GenW := uptoG (nat_lit 0) (nat_lit 6) (nat_lit 7) (nat_lit 106) (.ofNat (nat_lit 2))
theorem pf6_ok [Asm] {s : Int} (hS : @SymOK (jobRho s) _) : @GWFact (jobRho s) Try.prog pf6 := upK hS (by decide) rfl rfl
def pf7 : GenW := ofG (nat_lit 0) (nat_lit 7) (nat_lit 8) (nat_lit 107) (.int .i64 (.ofNat (nat_lit 0))) (.int .i64 (.ofNat (nat_lit 0))) (sy .i64 (nat_lit 106))
theorem pf7_ok [Asm] {s : Int} (hS : @SymOK (jobRho s) _) : @GWFact (jobRho s) Try.prog pf7 := ofK hS rfl rfl
def pf8 : GenW := uptoG (nat_lit 0) (nat_lit 8) (nat_lit 9) (nat_lit 108) (.ofNat (nat_lit 20))
theorem pf8_ok [Asm] {s : Int} (hS : @SymOK (jobRho s) _) : @GWFact (jobRho s) Try.prog pf8 := upK hS (by decide) rfl rfl
def pf9 : GenW := uptoG (nat_lit 0) (nat_lit 9) (nat_lit 10) (nat_lit 109) (.ofNat (nat_lit 2))
theorem pf9_ok [Asm] {s : Int} (hS : @SymOK (jobRho s) _) : @GWFact (jobRho s) Try.prog pf9 := upK hS (by decide) rfl rfl
def pf10 : GenW := ofG (nat_lit 0) (nat_lit 10) (nat_lit 11) (nat_lit 110) (.int .i64 (.ofNat (nat_lit 0))) (.int .i64 (.ofNat (nat_lit 0))) (sy .i64 (nat_lit 109))
theorem pf10_ok [Asm] {s : Int} (hS : @SymOK (jobRho s) _) : @GWFact (jobRho s) Try.prog pf10 := ofK hS rfl rfl
def pf11 : GenW := uptoG (nat_lit 0) (nat_lit 11) (nat_lit 12) (nat_lit 111) (.ofNat (nat_lit 2))
theorem pf11_ok [Asm] {s : Int} (hS : @SymOK (jobRho s) _) : @GWFact (jobRho s) Try.prog pf11 := upK hS (by decide) rfl rfl
def pf12 : GenW := ofG (nat_lit 0) (nat_lit 12) (nat_lit 13) (nat_lit 112) (.int .i64 (.ofNat (nat_lit 0))) (.int .i64 (.ofNat (nat_lit 0))) (sy .i64 (nat_lit 111))
theorem pf12_ok [Asm] {s : Int} (hS : @SymOK (jobRho s) _) : @GWFact (jobRho s) Try.prog pf12 := ofK hS rfl rfl
def pf13 : GenW := uptoG (nat_lit 0) (nat_lit 13) (nat_lit 14) (nat_lit 113) (.ofNat (nat_lit 20))
theorem pf13_ok [Asm] {s : Int} (hS : @SymOK (jobRho s) _) : @GWFact (jobRho s) Try.prog pf13 := upK hS (by decide) rfl rfl
def pf14 : GenW := uptoG (nat_lit 0) (nat_lit 14) (nat_lit 15) (nat_lit 114) (.ofNat (nat_lit 2))
theorem pf14_ok [Asm] {s : Int} (hS : @SymOK (jobRho s) _) : @GWFact (jobRho s) Try.prog pf14 := upK hS (by decide) rfl rfl
def pf15 : GenW := ofG (nat_lit 0) (nat_lit 15) (nat_lit 16) (nat_lit 115) (.int .i64 (.ofNat (nat_lit 0))) (.int .i64 (.ofNat (nat_lit 0))) (sy .i64 (nat_lit 114))
theorem pf15_ok [Asm] {s : Int} (hS : @SymOK (jobRho s) _) : @GWFact (jobRho s) Try.prog pf15 := ofK hS rfl rfl
def pf16 : GenW := uptoG (nat_lit 0) (nat_lit 16) (nat_lit 17) (nat_lit 116) (.ofNat (nat_lit 2))
theorem pf16_ok [Asm] {s : Int} (hS : @SymOK (jobRho s) _) : @GWFact (jobRho s) Try.prog pf16 := upK hS (by decide) rfl rfl
def pf17 : GenW := ofG (nat_lit 0) (nat_lit 17) (nat_lit 18) (nat_lit 117) (.int .i64 (.ofNat (nat_lit 0))) (.int .i64 (.ofNat (nat_lit 0))) (sy .i64 (nat_lit 116))
theorem pf17_ok [Asm] {s : Int} (hS : @SymOK (jobRho s) _) : @GWFact (jobRho s) Try.prog pf17 := ofK hS rfl rfl
def pf18 : GenW := uptoG (nat_lit 0) (nat_lit 18) (nat_lit 19) (nat_lit 118) (.ofNat (nat_lit 5))
theorem pf18_ok [Asm] {s : Int} (hS : @SymOK (jobRho s) _) : @GWFact (jobRho s) Try.prog pf18 := upK hS (by decide) rfl rfl
def pf19 : GenW := uptoG (nat_lit 0) (nat_lit 19) (nat_lit 20) (nat_lit 119) (.ofNat (nat_lit 1))
theorem pf19_ok [Asm] {s : Int} (hS : @SymOK (jobRho s) _) : @GWFact (jobRho s) Try.prog pf19 := upK hS (by decide) rfl rfl
def pf20 : GenW := ofG (nat_lit 0) (nat_lit 20) (nat_lit 21) (nat_lit 120) (.int .i64 (.ofNat (nat_lit 0))) (.int .i64 (.ofNat (nat_lit 0))) (sy .i64 (nat_lit 119))
theorem pf20_ok [Asm] {s : Int} (hS : @SymOK (jobRho s) _) : @GWFact (jobRho s) Try.prog pf20 := ofK hS rfl rfl
def pf21 : GenW := uptoG (nat_lit 0) (nat_lit 21) (nat_lit 22) (nat_lit 121) (.ofNat (nat_lit 1))
theorem pf21_ok [Asm] {s : Int} (hS : @SymOK (jobRho s) _) : @GWFact (jobRho s) Try.prog pf21 := upK hS (by decide) rfl rfl
def pf22 : GenW := ofG (nat_lit 0) (nat_lit 22) (nat_lit 23) (nat_lit 122) (.int .i64 (.ofNat (nat_lit 0))) (.int .i64 (.ofNat (nat_lit 0))) (sy .i64 (nat_lit 121))
theorem pf22_ok [Asm] {s : Int} (hS : @SymOK (jobRho s) _) : @GWFact (jobRho s) Try.prog pf22 := ofK hS rfl rfl
def pf23 : GenW := uptoG (nat_lit 0) (nat_lit 23) (nat_lit 24) (nat_lit 123) (.ofNat (nat_lit 5))
theorem pf23_ok [Asm] {s : Int} (hS : @SymOK (jobRho s) _) : @GWFact (jobRho s) Try.prog pf23 := upK hS (by decide) rfl rfl
def pf24 : GenW := uptoG (nat_lit 0) (nat_lit 24) (nat_lit 25) (nat_lit 124) (.ofNat (nat_lit 1))
theorem pf24_ok [Asm] {s : Int} (hS : @SymOK (jobRho s) _) : @GWFact (jobRho s) Try.prog pf24 := upK hS (by decide) rfl rfl
def pf25 : GenW := ofG (nat_lit 0) (nat_lit 25) (nat_lit 26) (nat_lit 125) (.int .i64 (.ofNat (nat_lit 0))) (.int .i64 (.ofNat (nat_lit 0))) (sy .i64 (nat_lit 124))
theorem pf25_ok [Asm] {s : Int} (hS : @SymOK (jobRho s) _) : @GWFact (jobRho s) Try.prog pf25 := ofK hS rfl rfl
def pf26 : GenW := uptoG (nat_lit 0) (nat_lit 26) (nat_lit 27) (nat_lit 126) (.ofNat (nat_lit 1))
theorem pf26_ok [Asm] {s : Int} (hS : @SymOK (jobRho s) _) : @GWFact (jobRho s) Try.prog pf26 := upK hS (by decide) rfl rfl
def pf27 : GenW := ofG (nat_lit 0) (nat_lit 27) (nat_lit 28) (nat_lit 127) (.int .i64 (.ofNat (nat_lit 0))) (.int .i64 (.ofNat (nat_lit 0))) (sy .i64 (nat_lit 126))
theorem pf27_ok [Asm] {s : Int} (hS : @SymOK (jobRho s) _) : @GWFact (jobRho s) Try.prog pf27 := ofK hS rfl rfl
def pf28 : GenW := uptoG (nat_lit 0) (nat_lit 28) (nat_lit 29) (nat_lit 128) (.ofNat (nat_lit 4))
theorem pf28_ok [Asm] {s : Int} (hS : @SymOK (jobRho s) _) : @GWFact (jobRho s) Try.prog pf28 := upK hS (by decide) rfl rfl
def pf29 : GenW := uptoG (nat_lit 0) (nat_lit 29) (nat_lit 30) (nat_lit 129) (.ofNat (nat_lit 1))
theorem pf29_ok [Asm] {s : Int} (hS : @SymOK (jobRho s) _) : @GWFact (jobRho s) Try.prog pf29 := upK hS (by decide) rfl rfl
def pf30 : GenW := ofG (nat_lit 0) (nat_lit 30) (nat_lit 31) (nat_lit 130) (.int .i64 (.ofNat (nat_lit 0))) (.int .i64 (.ofNat (nat_lit 0))) (sy .i64 (nat_lit 129))
theorem pf30_ok [Asm] {s : Int} (hS : @SymOK (jobRho s) _) : @GWFact (jobRho s) Try.prog pf30 := ofK hS rfl rfl
def pf31 : GenW := uptoG (nat_lit 0) (nat_lit 31) (nat_lit 32) (nat_lit 131) (.ofNat (nat_lit 1))
theorem pf31_ok [Asm] {s : Int} (hS : @SymOK (jobRho s) _) : @GWFact (jobRho s) Try.prog pf31 := upK hS (by decide) rfl rfl
def pf32 : GenW := ofG (nat_lit 0) (nat_lit 32) (nat_lit 33) (nat_lit 132) (.int .i64 (.ofNat (nat_lit 0))) (.int .i64 (.ofNat (nat_lit 0))) (sy .i64 (nat_lit 131))
theorem pf32_ok [Asm] {s : Int} (hS : @SymOK (jobRho s) _) : @GWFact (jobRho s) Try.prog pf32 := ofK hS rfl rfl
def pf33 : GenW := uptoG (nat_lit 0) (nat_lit 33) (nat_lit 34) (nat_lit 133) (.ofNat (nat_lit 4))
theorem pf33_ok [Asm] {s : Int} (hS : @SymOK (jobRho s) _) : @GWFact (jobRho s) Try.prog pf33 := upK hS (by decide) rfl rfl
def pf34 : GenW := uptoG (nat_lit 0) (nat_lit 34) (nat_lit 35) (nat_lit 134) (.ofNat (nat_lit 1))
theorem pf34_ok [Asm] {s : Int} (hS : @SymOK (jobRho s) _) : @GWFact (jobRho s) Try.prog pf34 := upK hS (by decide) rfl rfl
def pf35 : GenW := ofG (nat_lit 0) (nat_lit 35) (nat_lit 36) (nat_lit 135) (.int .i64 (.ofNat (nat_lit 0))) (.int .i64 (.ofNat (nat_lit 0))) (sy .i64 (nat_lit 134))
theorem pf35_ok [Asm] {s : Int} (hS : @SymOK (jobRho s) _) : @GWFact (jobRho s) Try.prog pf35 := ofK hS rfl rfl
def pf36 : GenW := uptoG (nat_lit 0) (nat_lit 36) (nat_lit 37) (nat_lit 136) (.ofNat (nat_lit 1))
theorem pf36_ok [Asm] {s : Int} (hS : @SymOK (jobRho s) _) : @GWFact (jobRho s) Try.prog pf36 := upK hS (by decide) rfl rfl
def pf37 : GenW := ofG (nat_lit 0) (nat_lit 37) (nat_lit 38) (nat_lit 137) (.int .i64 (.ofNat (nat_lit 0))) (.int .i64 (.ofNat (nat_lit 0))) (sy .i64 (nat_lit 136))
theorem pf37_ok [Asm] {s : Int} (hS : @SymOK (jobRho s) _) : @GWFact (jobRho s) Try.prog pf37 := ofK hS rfl rfl
def pf38 : GenW := uptoG (nat_lit 0) (nat_lit 38) (nat_lit 39) (nat_lit 138) (.ofNat (nat_lit 20))
theorem pf38_ok [Asm] {s : Int} (hS : @SymOK (jobRho s) _) : @GWFact (jobRho s) Try.prog pf38 := upK hS (by decide) rfl rfl
def pf39 : GenW := uptoG (nat_lit 0) (nat_lit 39) (nat_lit 40) (nat_lit 139) (.ofNat (nat_lit 3))
theorem pf39_ok [Asm] {s : Int} (hS : @SymOK (jobRho s) _) : @GWFact (jobRho s) Try.prog pf39 := upK hS (by decide) rfl rfl
def pf40 : GenW := uptoG (nat_lit 0) (nat_lit 40) (nat_lit 41) (nat_lit 140) (.ofNat (nat_lit 6))
theorem pf40_ok [Asm] {s : Int} (hS : @SymOK (jobRho s) _) : @GWFact (jobRho s) Try.prog pf40 := upK hS (by decide) rfl rfl
def pf41 : GenW := uptoG (nat_lit 0) (nat_lit 41) (nat_lit 42) (nat_lit 141) (.ofNat (nat_lit 2))
theorem pf41_ok [Asm] {s : Int} (hS : @SymOK (jobRho s) _) : @GWFact (jobRho s) Try.prog pf41 := upK hS (by decide) rfl rfl
def pf42 : GenW := ofG (nat_lit 0) (nat_lit 42) (nat_lit 43) (nat_lit 142) (.int .i64 (.ofNat (nat_lit 0))) (.int .i64 (.ofNat (nat_lit 0))) (sy .i64 (nat_lit 141))
theorem pf42_ok [Asm] {s : Int} (hS : @SymOK (jobRho s) _) : @GWFact (jobRho s) Try.prog pf42 := ofK hS rfl rfl
def pf43 : GenW := uptoG (nat_lit 0) (nat_lit 43) (nat_lit 44) (nat_lit 143) (.ofNat (nat_lit 2))
theorem pf43_ok [Asm] {s : Int} (hS : @SymOK (jobRho s) _) : @GWFact (jobRho s) Try.prog pf43 := upK hS (by decide) rfl rfl
def pf44 : GenW := ofG (nat_lit 0) (nat_lit 44) (nat_lit 45) (nat_lit 144) (.int .i64 (.ofNat (nat_lit 0))) (.int .i64 (.ofNat (nat_lit 0))) (sy .i64 (nat_lit 143))
theorem pf44_ok [Asm] {s : Int} (hS : @SymOK (jobRho s) _) : @GWFact (jobRho s) Try.prog pf44 := ofK hS rfl rfl
def pf45 : GenW := uptoG (nat_lit 0) (nat_lit 45) (nat_lit 46) (nat_lit 145) (.ofNat (nat_lit 6))
theorem pf45_ok [Asm] {s : Int} (hS : @SymOK (jobRho s) _) : @GWFact (jobRho s) Try.prog pf45 := upK hS (by decide) rfl rfl
def pf46 : GenW := uptoG (nat_lit 0) (nat_lit 46) (nat_lit 47) (nat_lit 146) (.ofNat (nat_lit 2))
theorem pf46_ok [Asm] {s : Int} (hS : @SymOK (jobRho s) _) : @GWFact (jobRho s) Try.prog pf46 := upK hS (by decide) rfl rfl
def pf47 : GenW := ofG (nat_lit 0) (nat_lit 47) (nat_lit 48) (nat_lit 147) (.int .i64 (.ofNat (nat_lit 0))) (.int .i64 (.ofNat (nat_lit 0))) (sy .i64 (nat_lit 146))
theorem pf47_ok [Asm] {s : Int} (hS : @SymOK (jobRho s) _) : @GWFact (jobRho s) Try.prog pf47 := ofK hS rfl rfl
def pf48 : GenW := uptoG (nat_lit 0) (nat_lit 48) (nat_lit 49) (nat_lit 148) (.ofNat (nat_lit 2))
theorem pf48_ok [Asm] {s : Int} (hS : @SymOK (jobRho s) _) : @GWFact (jobRho s) Try.prog pf48 := upK hS (by decide) rfl rfl
def pf49 : GenW := ofG (nat_lit 0) (nat_lit 49) (nat_lit 50) (nat_lit 149) (.int .i64 (.ofNat (nat_lit 0))) (.int .i64 (.ofNat (nat_lit 0))) (sy .i64 (nat_lit 148))
theorem pf49_ok [Asm] {s : Int} (hS : @SymOK (jobRho s) _) : @GWFact (jobRho s) Try.prog pf49 := ofK hS rfl rfl
def pf50 : GenW := uptoG (nat_lit 0) (nat_lit 50) (nat_lit 51) (nat_lit 150) (.ofNat (nat_lit 6))
theorem pf50_ok [Asm] {s : Int} (hS : @SymOK (jobRho s) _) : @GWFact (jobRho s) Try.prog pf50 := upK hS (by decide) rfl rfl
def pf51 : GenW := uptoG (nat_lit 0) (nat_lit 51) (nat_lit 52) (nat_lit 151) (.ofNat (nat_lit 2))
theorem pf51_ok [Asm] {s : Int} (hS : @SymOK (jobRho s) _) : @GWFact (jobRho s) Try.prog pf51 := upK hS (by decide) rfl rfl
def pf52 : GenW := ofG (nat_lit 0) (nat_lit 52) (nat_lit 53) (nat_lit 152) (.int .i64 (.ofNat (nat_lit 0))) (.int .i64 (.ofNat (nat_lit 0))) (sy .i64 (nat_lit 151))
theorem pf52_ok [Asm] {s : Int} (hS : @SymOK (jobRho s) _) : @GWFact (jobRho s) Try.prog pf52 := ofK hS rfl rfl
def pf53 : GenW := uptoG (nat_lit 0) (nat_lit 53) (nat_lit 54) (nat_lit 153) (.ofNat (nat_lit 2))
theorem pf53_ok [Asm] {s : Int} (hS : @SymOK (jobRho s) _) : @GWFact (jobRho s) Try.prog pf53 := upK hS (by decide) rfl rfl
def pf54 : GenW := ofG (nat_lit 0) (nat_lit 54) (nat_lit 55) (nat_lit 154) (.int .i64 (.ofNat (nat_lit 0))) (.int .i64 (.ofNat (nat_lit 0))) (sy .i64 (nat_lit 153))
theorem pf54_ok [Asm] {s : Int} (hS : @SymOK (jobRho s) _) : @GWFact (jobRho s) Try.prog pf54 := ofK hS rfl rfl
def jobKb_lw : List (Nat × List GenW) := [((nat_lit 21),[pf2,pf5,pf7,pf10,pf12,pf15,pf17,pf20,pf22,pf25,pf27,pf30,pf32,pf35,pf37,pf42,pf44,pf47,pf49,pf52,pf54]),((nat_lit 22),[pf0,pf1,pf3,pf4,pf6,pf8,pf9,pf11,pf13,pf14,pf16,pf18,pf19,pf21,pf23,pf24,pf26,pf28,pf29,pf31,pf33,pf34,pf36,pf38,pf39,pf40,pf41,pf43,pf45,pf46,pf48,pf50,pf51,pf53])]
def jobKb : Kb := { w := (.n (.n .e none (.n .e none (.n (.n .e (some [pf2,pf5,pf7,pf10,pf12,pf15,pf17,pf20,pf22,pf25,pf27,pf30,pf32,pf35,pf37,pf42,pf44,pf47,pf49,pf52,pf54]) .e) none .e))) none (.n .e none (.n .e none (.n (.n .e (some [pf0,pf1,pf3,pf4,pf6,pf8,pf9,pf11,pf13,pf14,pf16,pf18,pf19,pf21,pf23,pf24,pf26,pf28,pf29,pf31,pf33,pf34,pf36,pf38,pf39,pf40,pf41,pf43,pf45,pf46,pf48,pf50,pf51,pf53]) .e) none .e)))),g := .e,c := .e }
theorem kbGen [Rho] [Asm] [SymOK] (h1 : GWL Try.prog [pf2,pf5,pf7,pf10,pf12,pf15,pf17,pf20,pf22,pf25,pf27,pf30,pf32,pf35,pf37,pf42,pf44,pf47,pf49,pf52,pf54]) (h2 : GWL Try.prog [pf0,pf1,pf3,pf4,pf6,pf8,pf9,pf11,pf13,pf14,pf16,pf18,pf19,pf21,pf23,pf24,pf26,pf28,pf29,pf31,pf33,pf34,pf36,pf38,pf39,pf40,pf41,pf43,pf45,pf46,pf48,pf50,pf51,pf53]) : KbOK Try.prog jobKb := kbOK (lw := jobKb_lw) (lg := []) (lc := []) (.cons h1 (by kernel_rfl) (.cons h2 (by kernel_rfl) .nil)) .nil .nil (by kernel_rfl) (by kernel_rfl) (by kernel_rfl)
theorem jobKb_ok [Asm] {s : Int} (hS : @SymOK (jobRho s) _) : @KbOK (jobRho s) Try.prog jobKb := @kbGen (jobRho s) _ hS (@GWL.cons (jobRho s) _ _ _ (pf2_ok hS) (@GWL.cons (jobRho s) _ _ _ (pf5_ok hS) (@GWL.cons (jobRho s) _ _ _ (pf7_ok hS) (@GWL.cons (jobRho s) _ _ _ (pf10_ok hS) (@GWL.cons (jobRho s) _ _ _ (pf12_ok hS) (@GWL.cons (jobRho s) _ _ _ (pf15_ok hS) (@GWL.cons (jobRho s) _ _ _ (pf17_ok hS) (@GWL.cons (jobRho s) _ _ _ (pf20_ok hS) (@GWL.cons (jobRho s) _ _ _ (pf22_ok hS) (@GWL.cons (jobRho s) _ _ _ (pf25_ok hS) (@GWL.cons (jobRho s) _ _ _ (pf27_ok hS) (@GWL.cons (jobRho s) _ _ _ (pf30_ok hS) (@GWL.cons (jobRho s) _ _ _ (pf32_ok hS) (@GWL.cons (jobRho s) _ _ _ (pf35_ok hS) (@GWL.cons (jobRho s) _ _ _ (pf37_ok hS) (@GWL.cons (jobRho s) _ _ _ (pf42_ok hS) (@GWL.cons (jobRho s) _ _ _ (pf44_ok hS) (@GWL.cons (jobRho s) _ _ _ (pf47_ok hS) (@GWL.cons (jobRho s) _ _ _ (pf49_ok hS) (@GWL.cons (jobRho s) _ _ _ (pf52_ok hS) (@GWL.cons (jobRho s) _ _ _ (pf54_ok hS) (@GWL.nil (jobRho s) _)))))))))))))))))))))) (@GWL.cons (jobRho s) _ _ _ (pf0_ok hS) (@GWL.cons (jobRho s) _ _ _ (pf1_ok hS) (@GWL.cons (jobRho s) _ _ _ (pf3_ok hS) (@GWL.cons (jobRho s) _ _ _ (pf4_ok hS) (@GWL.cons (jobRho s) _ _ _ (pf6_ok hS) (@GWL.cons (jobRho s) _ _ _ (pf8_ok hS) (@GWL.cons (jobRho s) _ _ _ (pf9_ok hS) (@GWL.cons (jobRho s) _ _ _ (pf11_ok hS) (@GWL.cons (jobRho s) _ _ _ (pf13_ok hS) (@GWL.cons (jobRho s) _ _ _ (pf14_ok hS) (@GWL.cons (jobRho s) _ _ _ (pf16_ok hS) (@GWL.cons (jobRho s) _ _ _ (pf18_ok hS) (@GWL.cons (jobRho s) _ _ _ (pf19_ok hS) (@GWL.cons (jobRho s) _ _ _ (pf21_ok hS) (@GWL.cons (jobRho s) _ _ _ (pf23_ok hS) (@GWL.cons (jobRho s) _ _ _ (pf24_ok hS) (@GWL.cons (jobRho s) _ _ _ (pf26_ok hS) (@GWL.cons (jobRho s) _ _ _ (pf28_ok hS) (@GWL.cons (jobRho s) _ _ _ (pf29_ok hS) (@GWL.cons (jobRho s) _ _ _ (pf31_ok hS) (@GWL.cons (jobRho s) _ _ _ (pf33_ok hS) (@GWL.cons (jobRho s) _ _ _ (pf34_ok hS) (@GWL.cons (jobRho s) _ _ _ (pf36_ok hS) (@GWL.cons (jobRho s) _ _ _ (pf38_ok hS) (@GWL.cons (jobRho s) _ _ _ (pf39_ok hS) (@GWL.cons (jobRho s) _ _ _ (pf40_ok hS) (@GWL.cons (jobRho s) _ _ _ (pf41_ok hS) (@GWL.cons (jobRho s) _ _ _ (pf43_ok hS) (@GWL.cons (jobRho s) _ _ _ (pf45_ok hS) (@GWL.cons (jobRho s) _ _ _ (pf46_ok hS) (@GWL.cons (jobRho s) _ _ _ (pf48_ok hS) (@GWL.cons (jobRho s) _ _ _ (pf50_ok hS) (@GWL.cons (jobRho s) _ _ _ (pf51_ok hS) (@GWL.cons (jobRho s) _ _ _ (pf53_ok hS) (@GWL.nil (jobRho s) _)))))))))))))))))))))))))))))))))))
end
end Go.Sim.JF
/- A job of a pot: one run. -/
namespace Go.Sim.JF
set_option linter.all false
open Go Go.RowKit Go.Proofs Go.Proofs.Ytadmcafbffjjbaa
set_option maxRecDepth 1000000
noncomputable section
abbrev asm0 : Asm := ⟨[((.func (.yield (nat_lit 21)) ⟨[wi0,wy139]⟩ ⟨[]⟩),false)]⟩
def run0 : Chg := ⟨.func (.func (nat_lit 10)) ⟨[]⟩ ⟨[]⟩,[.pointer (some ⟨(nat_lit 0),(nat_lit 0),none⟩),.int .i64 (.ofNat (nat_lit 2)),.int .i64 (.ofNat (nat_lit 1))],⟨layB [.cells [sy .u64 (nat_lit 0)]] (nat_lit 0) .e,(nat_lit 1),(nat_lit 1),[]⟩,(.agg ⟨[(.func (.yield (nat_lit 6)) ⟨[wi0,wm59,(.func (.yield (nat_lit 2)) ⟨[wi0,(.func (.yield (nat_lit 1)) ⟨[wi0,wm15,wy103]⟩ ⟨[]⟩),wy105]⟩ ⟨[]⟩)]⟩ ⟨[]⟩),(.func (.yield (nat_lit 7)) ⟨[wi0,wi60,(.func (.yield (nat_lit 1)) ⟨[wi0,(.func (.yield (nat_lit 1)) ⟨[wi0,wm15,wy103]⟩ ⟨[]⟩),wy107]⟩ ⟨[]⟩)]⟩ ⟨[]⟩),(.func (.yield (nat_lit 6)) ⟨[wi0,wi0,(.func (.yield (nat_lit 2)) ⟨[wi0,(.func (.yield (nat_lit 1)) ⟨[wi0,wi20,wy108]⟩ ⟨[]⟩),wy110]⟩ ⟨[]⟩)]⟩ ⟨[]⟩),(.func (.yield (nat_lit 7)) ⟨[wi0,wi100,(.func (.yield (nat_lit 1)) ⟨[wi0,(.func (.yield (nat_lit 1)) ⟨[wi0,wi20,wy108]⟩ ⟨[]⟩),wy112]⟩ ⟨[]⟩)]⟩ ⟨[]⟩),(.func (.yield (nat_lit 6)) ⟨[wi0,wi0,(.func (.yield (nat_lit 2)) ⟨[wi0,(.func (.yield (nat_lit 1)) ⟨[wi0,wi20,wy113]⟩ ⟨[]⟩),wy115]⟩ ⟨[]⟩)]⟩ ⟨[]⟩),(.func (.yield (nat_lit 7)) ⟨[wi0,wi100,(.func (.yield (nat_lit 1)) ⟨[wi0,(.func (.yield (nat_lit 1)) ⟨[wi0,wi20,wy113]⟩ ⟨[]⟩),wy117]⟩ ⟨[]⟩)]⟩ ⟨[]⟩),(.func (.yield (nat_lit 6)) ⟨[wi0,wi0,(.func (.yield (nat_lit 2)) ⟨[wi0,(.func (.yield (nat_lit 1)) ⟨[wi0,wi1,wy118]⟩ ⟨[]⟩),wy120]⟩ ⟨[]⟩)]⟩ ⟨[]⟩),(.func (.yield (nat_lit 7)) ⟨[wi0,wi12,(.func (.yield (nat_lit 1)) ⟨[wi0,(.func (.yield (nat_lit 1)) ⟨[wi0,wi1,wy118]⟩ ⟨[]⟩),wy122]⟩ ⟨[]⟩)]⟩ ⟨[]⟩),(.func (.yield (nat_lit 6)) ⟨[wi0,wi0,(.func (.yield (nat_lit 2)) ⟨[wi0,(.func (.yield (nat_lit 1)) ⟨[wi0,wi1,wy123]⟩ ⟨[]⟩),wy125]⟩ ⟨[]⟩)]⟩ ⟨[]⟩),(.func (.yield (nat_lit 7)) ⟨[wi0,wi12,(.func (.yield (nat_lit 1)) ⟨[wi0,(.func (.yield (nat_lit 1)) ⟨[wi0,wi1,wy123]⟩ ⟨[]⟩),wy127]⟩ ⟨[]⟩)]⟩ ⟨[]⟩),(.func (.yield (nat_lit 6)) ⟨[wi0,wi0,(.func (.yield (nat_lit 2)) ⟨[wi0,wy128,wy130]⟩ ⟨[]⟩)]⟩ ⟨[]⟩),(.func (.yield (nat_lit 7)) ⟨[wi0,wi12,(.func (.yield (nat_lit 1)) ⟨[wi0,wy128,wy132]⟩ ⟨[]⟩)]⟩ ⟨[]⟩),(.func (.yield (nat_lit 6)) ⟨[wi0,wi0,(.func (.yield (nat_lit 2)) ⟨[wi0,wy133,wy135]⟩ ⟨[]⟩)]⟩ ⟨[]⟩),(.func (.yield (nat_lit 7)) ⟨[wi0,wi12,(.func (.yield (nat_lit 1)) ⟨[wi0,wy133,wy137]⟩ ⟨[]⟩)]⟩ ⟨[]⟩),(.func (.yield (nat_lit 1)) ⟨[wi0,wi10,wy138]⟩ ⟨[]⟩),(.slice none (nat_lit 0) (nat_lit 0)),(.func (.yield (nat_lit 1)) ⟨[wi0,wi1,wy100]⟩ ⟨[]⟩),wy102]⟩),(nat_lit 1),[(nat_lit 0)],[((nat_lit 0),(some (.cells [(.func (.yield (nat_lit 0)) ⟨[(.int .u64 (.ofNat (nat_lit 40)))]⟩ ⟨[]⟩)])))]⟩
theorem run0_ok {s : Int} (hS : @SymOK (jobRho s) asm0) : @CFact (jobRho s) Try.prog run0 := @cfact (jobRho s) asm0 hS Try.prog (@mixed (jobRho s) asm0 hS) tab (@tab_ok (jobRho s) asm0 hS) jobKb (@jobKb_ok asm0 s hS) run0 10000 (by kernel_rfl) (by kernel_rfl)
end
end Go.Sim.JF
/- A job of a pot: one run. -/
namespace Go.Sim.JF
set_option linter.all false
open Go Go.RowKit Go.Proofs Go.Proofs.Ytadmcafbffjjbaa
set_option maxRecDepth 1000000
noncomputable section
abbrev asm1 : Asm := ⟨[((.func (.yield (nat_lit 21)) ⟨[wi0,wy139]⟩ ⟨[]⟩),true),((.func (.yield (nat_lit 21)) ⟨[wi0,(.func (.yield (nat_lit 2)) ⟨[wi0,wy139,wi1]⟩ ⟨[]⟩)]⟩ ⟨[]⟩),false)]⟩
def run1 : Chg := ⟨.func (.func (nat_lit 10)) ⟨[]⟩ ⟨[]⟩,[.pointer (some ⟨(nat_lit 0),(nat_lit 0),none⟩),.int .i64 (.ofNat (nat_lit 2)),.int .i64 (.ofNat (nat_lit 1))],⟨layB [.cells [sy .u64 (nat_lit 0)]] (nat_lit 0) .e,(nat_lit 1),(nat_lit 1),[]⟩,(.agg ⟨[(.func (.yield (nat_lit 6)) ⟨[wi0,wm59,(.func (.yield (nat_lit 2)) ⟨[wi0,(.func (.yield (nat_lit 1)) ⟨[wi0,wm15,wy103]⟩ ⟨[]⟩),wy105]⟩ ⟨[]⟩)]⟩ ⟨[]⟩),(.func (.yield (nat_lit 7)) ⟨[wi0,wi60,(.func (.yield (nat_lit 1)) ⟨[wi0,(.func (.yield (nat_lit 1)) ⟨[wi0,wm15,wy103]⟩ ⟨[]⟩),wy107]⟩ ⟨[]⟩)]⟩ ⟨[]⟩),(.func (.yield (nat_lit 6)) ⟨[wi0,wi0,(.func (.yield (nat_lit 2)) ⟨[wi0,(.func (.yield (nat_lit 1)) ⟨[wi0,wi20,wy108]⟩ ⟨[]⟩),wy110]⟩ ⟨[]⟩)]⟩ ⟨[]⟩),(.func (.yield (nat_lit 7)) ⟨[wi0,wi100,(.func (.yield (nat_lit 1)) ⟨[wi0,(.func (.yield (nat_lit 1)) ⟨[wi0,wi20,wy108]⟩ ⟨[]⟩),wy112]⟩ ⟨[]⟩)]⟩ ⟨[]⟩),(.func (.yield (nat_lit 6)) ⟨[wi0,wi0,(.func (.yield (nat_lit 2)) ⟨[wi0,(.func (.yield (nat_lit 1)) ⟨[wi0,wi20,wy113]⟩ ⟨[]⟩),wy115]⟩ ⟨[]⟩)]⟩ ⟨[]⟩),(.func (.yield (nat_lit 7)) ⟨[wi0,wi100,(.func (.yield (nat_lit 1)) ⟨[wi0,(.func (.yield (nat_lit 1)) ⟨[wi0,wi20,wy113]⟩ ⟨[]⟩),wy117]⟩ ⟨[]⟩)]⟩ ⟨[]⟩),(.func (.yield (nat_lit 6)) ⟨[wi0,wi0,(.func (.yield (nat_lit 2)) ⟨[wi0,(.func (.yield (nat_lit 1)) ⟨[wi0,wi1,wy118]⟩ ⟨[]⟩),wy120]⟩ ⟨[]⟩)]⟩ ⟨[]⟩),(.func (.yield (nat_lit 7)) ⟨[wi0,wi12,(.func (.yield (nat_lit 1)) ⟨[wi0,(.func (.yield (nat_lit 1)) ⟨[wi0,wi1,wy118]⟩ ⟨[]⟩),wy122]⟩ ⟨[]⟩)]⟩ ⟨[]⟩),(.func (.yield (nat_lit 6)) ⟨[wi0,wi0,(.func (.yield (nat_lit 2)) ⟨[wi0,(.func (.yield (nat_lit 1)) ⟨[wi0,wi1,wy123]⟩ ⟨[]⟩),wy125]⟩ ⟨[]⟩)]⟩ ⟨[]⟩),(.func (.yield (nat_lit 7)) ⟨[wi0,wi12,(.func (.yield (nat_lit 1)) ⟨[wi0,(.func (.yield (nat_lit 1)) ⟨[wi0,wi1,wy123]⟩ ⟨[]⟩),wy127]⟩ ⟨[]⟩)]⟩ ⟨[]⟩),(.func (.yield (nat_lit 6)) ⟨[wi0,wi0,(.func (.yield (nat_lit 2)) ⟨[wi0,wy128,wy130]⟩ ⟨[]⟩)]⟩ ⟨[]⟩),(.func (.yield (nat_lit 7)) ⟨[wi0,wi12,(.func (.yield (nat_lit 1)) ⟨[wi0,wy128,wy132]⟩ ⟨[]⟩)]⟩ ⟨[]⟩),(.func (.yield (nat_lit 6)) ⟨[wi0,wi0,(.func (.yield (nat_lit 2)) ⟨[wi0,wy133,wy135]⟩ ⟨[]⟩)]⟩ ⟨[]⟩),(.func (.yield (nat_lit 7)) ⟨[wi0,wi12,(.func (.yield (nat_lit 1)) ⟨[wi0,wy133,wy137]⟩ ⟨[]⟩)]⟩ ⟨[]⟩),(.func (.yield (nat_lit 1)) ⟨[wi0,wi10,wy138]⟩ ⟨[]⟩),(.slice (some ⟨(nat_lit 14),(nat_lit 0),none⟩) (nat_lit 1) (nat_lit 18446744073709551618)),(.func (.yield (nat_lit 1)) ⟨[wi0,wi1,wy100]⟩ ⟨[]⟩),wy102]⟩),(nat_lit 15),[(nat_lit 0)],[((nat_lit 0),(some (.cells [(.func (.yield (nat_lit 0)) ⟨[(.int .u64 (.ofNat (nat_lit 45)))]⟩ ⟨[]⟩)]))),((nat_lit 1),(some (.cells [(.func (.yield (nat_lit 6)) ⟨[wi0,wm59,(.func (.yield (nat_lit 2)) ⟨[wi0,(.func (.yield (nat_lit 1)) ⟨[wi0,wm15,wy103]⟩ ⟨[]⟩),wy105]⟩ ⟨[]⟩)]⟩ ⟨[]⟩),(.func (.yield (nat_lit 7)) ⟨[wi0,wi60,(.func (.yield (nat_lit 1)) ⟨[wi0,(.func (.yield (nat_lit 1)) ⟨[wi0,wm15,wy103]⟩ ⟨[]⟩),wy107]⟩ ⟨[]⟩)]⟩ ⟨[]⟩),(.func (.yield (nat_lit 6)) ⟨[wi0,wi0,(.func (.yield (nat_lit 2)) ⟨[wi0,(.func (.yield (nat_lit 1)) ⟨[wi0,wi20,wy108]⟩ ⟨[]⟩),wy110]⟩ ⟨[]⟩)]⟩ ⟨[]⟩),(.func (.yield (nat_lit 7)) ⟨[wi0,wi100,(.func (.yield (nat_lit 1)) ⟨[wi0,(.func (.yield (nat_lit 1)) ⟨[wi0,wi20,wy108]⟩ ⟨[]⟩),wy112]⟩ ⟨[]⟩)]⟩ ⟨[]⟩),(.func (.yield (nat_lit 6)) ⟨[wi0,wi0,(.func (.yield (nat_lit 2)) ⟨[wi0,(.func (.yield (nat_lit 1)) ⟨[wi0,wi20,wy113]⟩ ⟨[]⟩),wy115]⟩ ⟨[]⟩)]⟩ ⟨[]⟩),(.func (.yield (nat_lit 7)) ⟨[wi0,wi100,(.func (.yield (nat_lit 1)) ⟨[wi0,(.func (.yield (nat_lit 1)) ⟨[wi0,wi20,wy113]⟩ ⟨[]⟩),wy117]⟩ ⟨[]⟩)]⟩ ⟨[]⟩),(.func (.yield (nat_lit 6)) ⟨[wi0,wi0,(.func (.yield (nat_lit 2)) ⟨[wi0,(.func (.yield (nat_lit 1)) ⟨[wi0,wi1,wy118]⟩ ⟨[]⟩),wy120]⟩ ⟨[]⟩)]⟩ ⟨[]⟩),(.func (.yield (nat_lit 7)) ⟨[wi0,wi12,(.func (.yield (nat_lit 1)) ⟨[wi0,(.func (.yield (nat_lit 1)) ⟨[wi0,wi1,wy118]⟩ ⟨[]⟩),wy122]⟩ ⟨[]⟩)]⟩ ⟨[]⟩),(.func (.yield (nat_lit 6)) ⟨[wi0,wi0,(.func (.yield (nat_lit 2)) ⟨[wi0,(.func (.yield (nat_lit 1)) ⟨[wi0,wi1,wy123]⟩ ⟨[]⟩),wy125]⟩ ⟨[]⟩)]⟩ ⟨[]⟩),(.func (.yield (nat_lit 7)) ⟨[wi0,wi12,(.func (.yield (nat_lit 1)) ⟨[wi0,(.func (.yield (nat_lit 1)) ⟨[wi0,wi1,wy123]⟩ ⟨[]⟩),wy127]⟩ ⟨[]⟩)]⟩ ⟨[]⟩),(.func (.yield (nat_lit 6)) ⟨[wi0,wi0,(.func (.yield (nat_lit 2)) ⟨[wi0,wy128,wy130]⟩ ⟨[]⟩)]⟩ ⟨[]⟩),(.func (.yield (nat_lit 7)) ⟨[wi0,wi12,(.func (.yield (nat_lit 1)) ⟨[wi0,wy128,wy132]⟩ ⟨[]⟩)]⟩ ⟨[]⟩),(.func (.yield (nat_lit 6)) ⟨[wi0,wi0,(.func (.yield (nat_lit 2)) ⟨[wi0,wy133,wy135]⟩ ⟨[]⟩)]⟩ ⟨[]⟩),(.func (.yield (nat_lit 7)) ⟨[wi0,wi12,(.func (.yield (nat_lit 1)) ⟨[wi0,wy133,wy137]⟩ ⟨[]⟩)]⟩ ⟨[]⟩),(.func (.yield (nat_lit 1)) ⟨[wi0,wi10,wy138]⟩ ⟨[]⟩),(.slice (some ⟨(nat_lit 14),(nat_lit 0),none⟩) (nat_lit 1) (nat_lit 18446744073709551618)),(.func (.yield (nat_lit 1)) ⟨[wi0,wi1,wy100]⟩ ⟨[]⟩),wy102]))),((nat_lit 3),(some (.cells [(.func (.yield (nat_lit 6)) ⟨[wi0,wm59,(.func (.yield (nat_lit 2)) ⟨[wi0,(.func (.yield (nat_lit 1)) ⟨[wi0,wm15,wy103]⟩ ⟨[]⟩),wy105]⟩ ⟨[]⟩)]⟩ ⟨[]⟩),(.func (.yield (nat_lit 7)) ⟨[wi0,wi60,(.func (.yield (nat_lit 1)) ⟨[wi0,(.func (.yield (nat_lit 1)) ⟨[wi0,wm15,wy103]⟩ ⟨[]⟩),wy107]⟩ ⟨[]⟩)]⟩ ⟨[]⟩),(.func (.yield (nat_lit 6)) ⟨[wi0,wi0,(.func (.yield (nat_lit 2)) ⟨[wi0,(.func (.yield (nat_lit 1)) ⟨[wi0,wi20,wy108]⟩ ⟨[]⟩),wy110]⟩ ⟨[]⟩)]⟩ ⟨[]⟩),(.func (.yield (nat_lit 7)) ⟨[wi0,wi100,(.func (.yield (nat_lit 1)) ⟨[wi0,(.func (.yield (nat_lit 1)) ⟨[wi0,wi20,wy108]⟩ ⟨[]⟩),wy112]⟩ ⟨[]⟩)]⟩ ⟨[]⟩),(.func (.yield (nat_lit 6)) ⟨[wi0,wi0,(.func (.yield (nat_lit 2)) ⟨[wi0,(.func (.yield (nat_lit 1)) ⟨[wi0,wi20,wy113]⟩ ⟨[]⟩),wy115]⟩ ⟨[]⟩)]⟩ ⟨[]⟩),(.func (.yield (nat_lit 7)) ⟨[wi0,wi100,(.func (.yield (nat_lit 1)) ⟨[wi0,(.func (.yield (nat_lit 1)) ⟨[wi0,wi20,wy113]⟩ ⟨[]⟩),wy117]⟩ ⟨[]⟩)]⟩ ⟨[]⟩),(.func (.yield (nat_lit 6)) ⟨[wi0,wi0,(.func (.yield (nat_lit 2)) ⟨[wi0,(.func (.yield (nat_lit 1)) ⟨[wi0,wi1,wy118]⟩ ⟨[]⟩),wy120]⟩ ⟨[]⟩)]⟩ ⟨[]⟩),(.func (.yield (nat_lit 7)) ⟨[wi0,wi12,(.func (.yield (nat_lit 1)) ⟨[wi0,(.func (.yield (nat_lit 1)) ⟨[wi0,wi1,wy118]⟩ ⟨[]⟩),wy122]⟩ ⟨[]⟩)]⟩ ⟨[]⟩),(.func (.yield (nat_lit 6)) ⟨[wi0,wi0,(.func (.yield (nat_lit 2)) ⟨[wi0,(.func (.yield (nat_lit 1)) ⟨[wi0,wi1,wy123]⟩ ⟨[]⟩),wy125]⟩ ⟨[]⟩)]⟩ ⟨[]⟩),(.func (.yield (nat_lit 7)) ⟨[wi0,wi12,(.func (.yield (nat_lit 1)) ⟨[wi0,(.func (.yield (nat_lit 1)) ⟨[wi0,wi1,wy123]⟩ ⟨[]⟩),wy127]⟩ ⟨[]⟩)]⟩ ⟨[]⟩),(.func (.yield (nat_lit 6)) ⟨[wi0,wi0,(.func (.yield (nat_lit 2)) ⟨[wi0,wy128,wy130]⟩ ⟨[]⟩)]⟩ ⟨[]⟩),(.func (.yield (nat_lit 7)) ⟨[wi0,wi12,(.func (.yield (nat_lit 1)) ⟨[wi0,wy128,wy132]⟩ ⟨[]⟩)]⟩ ⟨[]⟩),(.func (.yield (nat_lit 6)) ⟨[wi0,wi0,(.func (.yield (nat_lit 2)) ⟨[wi0,wy133,wy135]⟩ ⟨[]⟩)]⟩ ⟨[]⟩),(.func (.yield (nat_lit 7)) ⟨[wi0,wi12,(.func (.yield (nat_lit 1)) ⟨[wi0,wy133,wy137]⟩ ⟨[]⟩)]⟩ ⟨[]⟩),(.func (.yield (nat_lit 1)) ⟨[wi0,wi10,wy138]⟩ ⟨[]⟩),(.slice (some ⟨(nat_lit 14),(nat_lit 0),none⟩) (nat_lit 1) (nat_lit 18446744073709551618)),(.func (.yield (nat_lit 1)) ⟨[wi0,wi1,wy100]⟩ ⟨[]⟩),wy102]))),((nat_lit 2),(some (.cells [wi0,wi1,wy101]))),((nat_lit 6),none),((nat_lit 10),(some (.cells [(.func (.yield (nat_lit 6)) ⟨[wi0,wm59,(.func (.yield (nat_lit 2)) ⟨[wi0,(.func (.yield (nat_lit 1)) ⟨[wi0,wm2,wy140]⟩ ⟨[]⟩),wy142]⟩ ⟨[]⟩)]⟩ ⟨[]⟩),(.func (.yield (nat_lit 7)) ⟨[wi0,wi60,(.func (.yield (nat_lit 1)) ⟨[wi0,(.func (.yield (nat_lit 1)) ⟨[wi0,wm2,wy140]⟩ ⟨[]⟩),wy144]⟩ ⟨[]⟩)]⟩ ⟨[]⟩)]))),((nat_lit 14),(some (.cells [(.func (.yield (nat_lit 6)) ⟨[wi0,wm59,(.func (.yield (nat_lit 2)) ⟨[wi0,(.func (.yield (nat_lit 1)) ⟨[wi0,wm2,wy140]⟩ ⟨[]⟩),wy142]⟩ ⟨[]⟩)]⟩ ⟨[]⟩),(.func (.yield (nat_lit 7)) ⟨[wi0,wi60,(.func (.yield (nat_lit 1)) ⟨[wi0,(.func (.yield (nat_lit 1)) ⟨[wi0,wm2,wy140]⟩ ⟨[]⟩),wy144]⟩ ⟨[]⟩)]⟩ ⟨[]⟩)])))]⟩
theorem run1_ok {s : Int} (hS : @SymOK (jobRho s) asm1) : @CFact (jobRho s) Try.prog run1 := @cfact (jobRho s) asm1 hS Try.prog (@mixed (jobRho s) asm1 hS) tab (@tab_ok (jobRho s) asm1 hS) jobKb (@jobKb_ok asm1 s hS) run1 10000 (by kernel_rfl) (by kernel_rfl)
end
end Go.Sim.JF
/- A job of a pot: one run. -/
namespace Go.Sim.JF
set_option linter.all false
open Go Go.RowKit Go.Proofs Go.Proofs.Ytadmcafbffjjbaa
set_option maxRecDepth 1000000
noncomputable section
abbrev asm2 : Asm := ⟨[((.func (.yield (nat_lit 21)) ⟨[wi0,wy139]⟩ ⟨[]⟩),true),((.func (.yield (nat_lit 21)) ⟨[wi0,(.func (.yield (nat_lit 2)) ⟨[wi0,wy139,wi1]⟩ ⟨[]⟩)]⟩ ⟨[]⟩),true),((.func (.yield (nat_lit 21)) ⟨[wi0,(.func (.yield (nat_lit 2)) ⟨[wi0,(.func (.yield (nat_lit 2)) ⟨[wi0,wy139,wi1]⟩ ⟨[]⟩),wi1]⟩ ⟨[]⟩)]⟩ ⟨[]⟩),false)]⟩
def run2 : Chg := ⟨.func (.func (nat_lit 10)) ⟨[]⟩ ⟨[]⟩,[.pointer (some ⟨(nat_lit 0),(nat_lit 0),none⟩),.int .i64 (.ofNat (nat_lit 2)),.int .i64 (.ofNat (nat_lit 1))],⟨layB [.cells [sy .u64 (nat_lit 0)]] (nat_lit 0) .e,(nat_lit 1),(nat_lit 1),[]⟩,(.agg ⟨[(.func (.yield (nat_lit 6)) ⟨[wi0,wm59,(.func (.yield (nat_lit 2)) ⟨[wi0,(.func (.yield (nat_lit 1)) ⟨[wi0,wm15,wy103]⟩ ⟨[]⟩),wy105]⟩ ⟨[]⟩)]⟩ ⟨[]⟩),(.func (.yield (nat_lit 7)) ⟨[wi0,wi60,(.func (.yield (nat_lit 1)) ⟨[wi0,(.func (.yield (nat_lit 1)) ⟨[wi0,wm15,wy103]⟩ ⟨[]⟩),wy107]⟩ ⟨[]⟩)]⟩ ⟨[]⟩),(.func (.yield (nat_lit 6)) ⟨[wi0,wi0,(.func (.yield (nat_lit 2)) ⟨[wi0,(.func (.yield (nat_lit 1)) ⟨[wi0,wi20,wy108]⟩ ⟨[]⟩),wy110]⟩ ⟨[]⟩)]⟩ ⟨[]⟩),(.func (.yield (nat_lit 7)) ⟨[wi0,wi100,(.func (.yield (nat_lit 1)) ⟨[wi0,(.func (.yield (nat_lit 1)) ⟨[wi0,wi20,wy108]⟩ ⟨[]⟩),wy112]⟩ ⟨[]⟩)]⟩ ⟨[]⟩),(.func (.yield (nat_lit 6)) ⟨[wi0,wi0,(.func (.yield (nat_lit 2)) ⟨[wi0,(.func (.yield (nat_lit 1)) ⟨[wi0,wi20,wy113]⟩ ⟨[]⟩),wy115]⟩ ⟨[]⟩)]⟩ ⟨[]⟩),(.func (.yield (nat_lit 7)) ⟨[wi0,wi100,(.func (.yield (nat_lit 1)) ⟨[wi0,(.func (.yield (nat_lit 1)) ⟨[wi0,wi20,wy113]⟩ ⟨[]⟩),wy117]⟩ ⟨[]⟩)]⟩ ⟨[]⟩),(.func (.yield (nat_lit 6)) ⟨[wi0,wi0,(.func (.yield (nat_lit 2)) ⟨[wi0,(.func (.yield (nat_lit 1)) ⟨[wi0,wi1,wy118]⟩ ⟨[]⟩),wy120]⟩ ⟨[]⟩)]⟩ ⟨[]⟩),(.func (.yield (nat_lit 7)) ⟨[wi0,wi12,(.func (.yield (nat_lit 1)) ⟨[wi0,(.func (.yield (nat_lit 1)) ⟨[wi0,wi1,wy118]⟩ ⟨[]⟩),wy122]⟩ ⟨[]⟩)]⟩ ⟨[]⟩),(.func (.yield (nat_lit 6)) ⟨[wi0,wi0,(.func (.yield (nat_lit 2)) ⟨[wi0,(.func (.yield (nat_lit 1)) ⟨[wi0,wi1,wy123]⟩ ⟨[]⟩),wy125]⟩ ⟨[]⟩)]⟩ ⟨[]⟩),(.func (.yield (nat_lit 7)) ⟨[wi0,wi12,(.func (.yield (nat_lit 1)) ⟨[wi0,(.func (.yield (nat_lit 1)) ⟨[wi0,wi1,wy123]⟩ ⟨[]⟩),wy127]⟩ ⟨[]⟩)]⟩ ⟨[]⟩),(.func (.yield (nat_lit 6)) ⟨[wi0,wi0,(.func (.yield (nat_lit 2)) ⟨[wi0,wy128,wy130]⟩ ⟨[]⟩)]⟩ ⟨[]⟩),(.func (.yield (nat_lit 7)) ⟨[wi0,wi12,(.func (.yield (nat_lit 1)) ⟨[wi0,wy128,wy132]⟩ ⟨[]⟩)]⟩ ⟨[]⟩),(.func (.yield (nat_lit 6)) ⟨[wi0,wi0,(.func (.yield (nat_lit 2)) ⟨[wi0,wy133,wy135]⟩ ⟨[]⟩)]⟩ ⟨[]⟩),(.func (.yield (nat_lit 7)) ⟨[wi0,wi12,(.func (.yield (nat_lit 1)) ⟨[wi0,wy133,wy137]⟩ ⟨[]⟩)]⟩ ⟨[]⟩),(.func (.yield (nat_lit 1)) ⟨[wi0,wi10,wy138]⟩ ⟨[]⟩),(.slice (some ⟨(nat_lit 25),(nat_lit 0),none⟩) (nat_lit 2) (nat_lit 18446744073709551618)),(.func (.yield (nat_lit 1)) ⟨[wi0,wi1,wy100]⟩ ⟨[]⟩),wy102]⟩),(nat_lit 26),[(nat_lit 0)],[((nat_lit 0),(some (.cells [(.func (.yield (nat_lit 0)) ⟨[(.int .u64 (.ofNat (nat_lit 50)))]⟩ ⟨[]⟩)]))),((nat_lit 1),(some (.cells [(.func (.yield (nat_lit 6)) ⟨[wi0,wm59,(.func (.yield (nat_lit 2)) ⟨[wi0,(.func (.yield (nat_lit 1)) ⟨[wi0,wm15,wy103]⟩ ⟨[]⟩),wy105]⟩ ⟨[]⟩)]⟩ ⟨[]⟩),(.func (.yield (nat_lit 7)) ⟨[wi0,wi60,(.func (.yield (nat_lit 1)) ⟨[wi0,(.func (.yield (nat_lit 1)) ⟨[wi0,wm15,wy103]⟩ ⟨[]⟩),wy107]⟩ ⟨[]⟩)]⟩ ⟨[]⟩),(.func (.yield (nat_lit 6)) ⟨[wi0,wi0,(.func (.yield (nat_lit 2)) ⟨[wi0,(.func (.yield (nat_lit 1)) ⟨[wi0,wi20,wy108]⟩ ⟨[]⟩),wy110]⟩ ⟨[]⟩)]⟩ ⟨[]⟩),(.func (.yield (nat_lit 7)) ⟨[wi0,wi100,(.func (.yield (nat_lit 1)) ⟨[wi0,(.func (.yield (nat_lit 1)) ⟨[wi0,wi20,wy108]⟩ ⟨[]⟩),wy112]⟩ ⟨[]⟩)]⟩ ⟨[]⟩),(.func (.yield (nat_lit 6)) ⟨[wi0,wi0,(.func (.yield (nat_lit 2)) ⟨[wi0,(.func (.yield (nat_lit 1)) ⟨[wi0,wi20,wy113]⟩ ⟨[]⟩),wy115]⟩ ⟨[]⟩)]⟩ ⟨[]⟩),(.func (.yield (nat_lit 7)) ⟨[wi0,wi100,(.func (.yield (nat_lit 1)) ⟨[wi0,(.func (.yield (nat_lit 1)) ⟨[wi0,wi20,wy113]⟩ ⟨[]⟩),wy117]⟩ ⟨[]⟩)]⟩ ⟨[]⟩),(.func (.yield (nat_lit 6)) ⟨[wi0,wi0,(.func (.yield (nat_lit 2)) ⟨[wi0,(.func (.yield (nat_lit 1)) ⟨[wi0,wi1,wy118]⟩ ⟨[]⟩),wy120]⟩ ⟨[]⟩)]⟩ ⟨[]⟩),(.func (.yield (nat_lit 7)) ⟨[wi0,wi12,(.func (.yield (nat_lit 1)) ⟨[wi0,(.func (.yield (nat_lit 1)) ⟨[wi0,wi1,wy118]⟩ ⟨[]⟩),wy122]⟩ ⟨[]⟩)]⟩ ⟨[]⟩),(.func (.yield (nat_lit 6)) ⟨[wi0,wi0,(.func (.yield (nat_lit 2)) ⟨[wi0,(.func (.yield (nat_lit 1)) ⟨[wi0,wi1,wy123]⟩ ⟨[]⟩),wy125]⟩ ⟨[]⟩)]⟩ ⟨[]⟩),(.func (.yield (nat_lit 7)) ⟨[wi0,wi12,(.func (.yield (nat_lit 1)) ⟨[wi0,(.func (.yield (nat_lit 1)) ⟨[wi0,wi1,wy123]⟩ ⟨[]⟩),wy127]⟩ ⟨[]⟩)]⟩ ⟨[]⟩),(.func (.yield (nat_lit 6)) ⟨[wi0,wi0,(.func (.yield (nat_lit 2)) ⟨[wi0,wy128,wy130]⟩ ⟨[]⟩)]⟩ ⟨[]⟩),(.func (.yield (nat_lit 7)) ⟨[wi0,wi12,(.func (.yield (nat_lit 1)) ⟨[wi0,wy128,wy132]⟩ ⟨[]⟩)]⟩ ⟨[]⟩),(.func (.yield (nat_lit 6)) ⟨[wi0,wi0,(.func (.yield (nat_lit 2)) ⟨[wi0,wy133,wy135]⟩ ⟨[]⟩)]⟩ ⟨[]⟩),(.func (.yield (nat_lit 7)) ⟨[wi0,wi12,(.func (.yield (nat_lit 1)) ⟨[wi0,wy133,wy137]⟩ ⟨[]⟩)]⟩ ⟨[]⟩),(.func (.yield (nat_lit 1)) ⟨[wi0,wi10,wy138]⟩ ⟨[]⟩),(.slice (some ⟨(nat_lit 25),(nat_lit 0),none⟩) (nat_lit 2) (nat_lit 18446744073709551618)),(.func (.yield (nat_lit 1)) ⟨[wi0,wi1,wy100]⟩ ⟨[]⟩),wy102]))),((nat_lit 3),(some (.cells [(.func (.yield (nat_lit 6)) ⟨[wi0,wm59,(.func (.yield (nat_lit 2)) ⟨[wi0,(.func (.yield (nat_lit 1)) ⟨[wi0,wm15,wy103]⟩ ⟨[]⟩),wy105]⟩ ⟨[]⟩)]⟩ ⟨[]⟩),(.func (.yield (nat_lit 7)) ⟨[wi0,wi60,(.func (.yield (nat_lit 1)) ⟨[wi0,(.func (.yield (nat_lit 1)) ⟨[wi0,wm15,wy103]⟩ ⟨[]⟩),wy107]⟩ ⟨[]⟩)]⟩ ⟨[]⟩),(.func (.yield (nat_lit 6)) ⟨[wi0,wi0,(.func (.yield (nat_lit 2)) ⟨[wi0,(.func (.yield (nat_lit 1)) ⟨[wi0,wi20,wy108]⟩ ⟨[]⟩),wy110]⟩ ⟨[]⟩)]⟩ ⟨[]⟩),(.func (.yield (nat_lit 7)) ⟨[wi0,wi100,(.func (.yield (nat_lit 1)) ⟨[wi0,(.func (.yield (nat_lit 1)) ⟨[wi0,wi20,wy108]⟩ ⟨[]⟩),wy112]⟩ ⟨[]⟩)]⟩ ⟨[]⟩),(.func (.yield (nat_lit 6)) ⟨[wi0,wi0,(.func (.yield (nat_lit 2)) ⟨[wi0,(.func (.yield (nat_lit 1)) ⟨[wi0,wi20,wy113]⟩ ⟨[]⟩),wy115]⟩ ⟨[]⟩)]⟩ ⟨[]⟩),(.func (.yield (nat_lit 7)) ⟨[wi0,wi100,(.func (.yield (nat_lit 1)) ⟨[wi0,(.func (.yield (nat_lit 1)) ⟨[wi0,wi20,wy113]⟩ ⟨[]⟩),wy117]⟩ ⟨[]⟩)]⟩ ⟨[]⟩),(.func (.yield (nat_lit 6)) ⟨[wi0,wi0,(.func (.yield (nat_lit 2)) ⟨[wi0,(.func (.yield (nat_lit 1)) ⟨[wi0,wi1,wy118]⟩ ⟨[]⟩),wy120]⟩ ⟨[]⟩)]⟩ ⟨[]⟩),(.func (.yield (nat_lit 7)) ⟨[wi0,wi12,(.func (.yield (nat_lit 1)) ⟨[wi0,(.func (.yield (nat_lit 1)) ⟨[wi0,wi1,wy118]⟩ ⟨[]⟩),wy122]⟩ ⟨[]⟩)]⟩ ⟨[]⟩),(.func (.yield (nat_lit 6)) ⟨[wi0,wi0,(.func (.yield (nat_lit 2)) ⟨[wi0,(.func (.yield (nat_lit 1)) ⟨[wi0,wi1,wy123]⟩ ⟨[]⟩),wy125]⟩ ⟨[]⟩)]⟩ ⟨[]⟩),(.func (.yield (nat_lit 7)) ⟨[wi0,wi12,(.func (.yield (nat_lit 1)) ⟨[wi0,(.func (.yield (nat_lit 1)) ⟨[wi0,wi1,wy123]⟩ ⟨[]⟩),wy127]⟩ ⟨[]⟩)]⟩ ⟨[]⟩),(.func (.yield (nat_lit 6)) ⟨[wi0,wi0,(.func (.yield (nat_lit 2)) ⟨[wi0,wy128,wy130]⟩ ⟨[]⟩)]⟩ ⟨[]⟩),(.func (.yield (nat_lit 7)) ⟨[wi0,wi12,(.func (.yield (nat_lit 1)) ⟨[wi0,wy128,wy132]⟩ ⟨[]⟩)]⟩ ⟨[]⟩),(.func (.yield (nat_lit 6)) ⟨[wi0,wi0,(.func (.yield (nat_lit 2)) ⟨[wi0,wy133,wy135]⟩ ⟨[]⟩)]⟩ ⟨[]⟩),(.func (.yield (nat_lit 7)) ⟨[wi0,wi12,(.func (.yield (nat_lit 1)) ⟨[wi0,wy133,wy137]⟩ ⟨[]⟩)]⟩ ⟨[]⟩),(.func (.yield (nat_lit 1)) ⟨[wi0,wi10,wy138]⟩ ⟨[]⟩),(.slice (some ⟨(nat_lit 25),(nat_lit 0),none⟩) (nat_lit 2) (nat_lit 18446744073709551618)),(.func (.yield (nat_lit 1)) ⟨[wi0,wi1,wy100]⟩ ⟨[]⟩),wy102]))),((nat_lit 5),none),((nat_lit 9),none),((nat_lit 25),(some (.cells [(.func (.yield (nat_lit 6)) ⟨[wi0,wm59,(.func (.yield (nat_lit 2)) ⟨[wi0,(.func (.yield (nat_lit 1)) ⟨[wi0,wm2,wy140]⟩ ⟨[]⟩),wy142]⟩ ⟨[]⟩)]⟩ ⟨[]⟩),(.func (.yield (nat_lit 7)) ⟨[wi0,wi60,(.func (.yield (nat_lit 1)) ⟨[wi0,(.func (.yield (nat_lit 1)) ⟨[wi0,wm2,wy140]⟩ ⟨[]⟩),wy144]⟩ ⟨[]⟩)]⟩ ⟨[]⟩),(.func (.yield (nat_lit 6)) ⟨[wi0,wm59,(.func (.yield (nat_lit 2)) ⟨[wi0,(.func (.yield (nat_lit 1)) ⟨[wi0,wm2,wy145]⟩ ⟨[]⟩),wy147]⟩ ⟨[]⟩)]⟩ ⟨[]⟩),(.func (.yield (nat_lit 7)) ⟨[wi0,wi60,(.func (.yield (nat_lit 1)) ⟨[wi0,(.func (.yield (nat_lit 1)) ⟨[wi0,wm2,wy145]⟩ ⟨[]⟩),wy149]⟩ ⟨[]⟩)]⟩ ⟨[]⟩)]))),((nat_lit 13),none),((nat_lit 21),(some (.cells [(.func (.yield (nat_lit 6)) ⟨[wi0,wm59,(.func (.yield (nat_lit 2)) ⟨[wi0,(.func (.yield (nat_lit 1)) ⟨[wi0,wm2,wy145]⟩ ⟨[]⟩),wy147]⟩ ⟨[]⟩)]⟩ ⟨[]⟩),(.func (.yield (nat_lit 7)) ⟨[wi0,wi60,(.func (.yield (nat_lit 1)) ⟨[wi0,(.func (.yield (nat_lit 1)) ⟨[wi0,wm2,wy145]⟩ ⟨[]⟩),wy149]⟩ ⟨[]⟩)]⟩ ⟨[]⟩)]))),((nat_lit 2),(some (.cells [wi0,wi1,wy101]))),((nat_lit 6),none),((nat_lit 10),(some (.cells [(.func (.yield (nat_lit 6)) ⟨[wi0,wm59,(.func (.yield (nat_lit 2)) ⟨[wi0,(.func (.yield (nat_lit 1)) ⟨[wi0,wm2,wy140]⟩ ⟨[]⟩),wy142]⟩ ⟨[]⟩)]⟩ ⟨[]⟩),(.func (.yield (nat_lit 7)) ⟨[wi0,wi60,(.func (.yield (nat_lit 1)) ⟨[wi0,(.func (.yield (nat_lit 1)) ⟨[wi0,wm2,wy140]⟩ ⟨[]⟩),wy144]⟩ ⟨[]⟩)]⟩ ⟨[]⟩)]))),((nat_lit 14),none)]⟩
theorem run2_ok {s : Int} (hS : @SymOK (jobRho s) asm2) : @CFact (jobRho s) Try.prog run2 := @cfact (jobRho s) asm2 hS Try.prog (@mixed (jobRho s) asm2 hS) tab (@tab_ok (jobRho s) asm2 hS) jobKb (@jobKb_ok asm2 s hS) run2 10000 (by kernel_rfl) (by kernel_rfl)
end
end Go.Sim.JF
