/- Part 2 of the proof: AlC, Pot, PotK, PotI, HearF, TruG, KitG, AlD, PotN. -/
import Derived.Test.YtolabejbhaeddaaProg
import Derived.WalkKit
import Derived.WalkLawsBesides
import Derived.Deep.RegionHeld3
import Derived.LoopN
import Derived.Test.YtolabejbhaeddaaW01
import Derived.Test.YtolabejbhaeddaaW00
/- Mathematics of the law ReedAll: the truths that are gone through. -/
namespace Go.Proofs.Ytolabejbhaeddaa
set_option linter.all false
open Go.RowKit

/-- All shifts, as they are gone through: what is chosen so far, and what is left. -/
def shiftsT : List R2 → List Int → List (List Int)
  | [],acc => [if acc = [] then [0] else acc]
  | s :: r,acc => (nums s.1 s.2).flatMap fun n => shiftsT r (acc ++ [n])
def upR (J : Jb) (s : Int) : R2 := if s = 2 then (-J.d2,-J.d1) else (J.u1,J.u2)
def weR (J : Jb) (s : Int) : R2 := if s = 2 then (J.y1,J.y2) else (J.x1,J.x2)
def nextF (t : Fd) (s n w : Int) : Fd := if s = 1 then ⟨t.p + n,t.t - w,t.r⟩ else ⟨t.p + n,t.t,t.r - w⟩
/-- All truths that go on from what a tongue is. -/
def allT (J : Jb) : List Int → Fd → List Int → List (Fd × List Int)
  | [],t,acc => (shiftsT (J.sh.drop acc.length) acc).map fun l => (t,l)
  | s :: l,t,acc => (nums (upR J s).1 (upR J s).2).flatMap fun n => (nums (weR J s).1 (weR J s).2).flatMap fun w => allT J l (nextF t s n w) acc
def rootT (J : Jb) (l : List Int) : List (Fd × List Int) := (nums J.p1 J.p2).flatMap fun n => (nums J.t1 J.t2).flatMap fun t => (nums J.r1 J.r2).flatMap fun r => allT J l ⟨n,t,r⟩ []
theorem mem_shiftsT (l : List Int) : ∀ (r : List R2) (acc : List Int),l ∈ shiftsT r acc ↔ ∃ k,Ins k r ∧ l = if acc ++ k = [] then [0] else acc ++ k
  | [],acc => by
    rw [shiftsT,List.mem_singleton]
    constructor
    · intro h
      exact ⟨[],trivial,by simpa using h⟩
    · rintro ⟨k,hk,h⟩
      cases k with
      | nil => simpa using h
      | cons v k => exact hk.elim
  | s :: r,acc => by
    rw [shiftsT,List.mem_flatMap]
    constructor
    · rintro ⟨n,hn,h⟩
      obtain ⟨k,hk,e⟩ := (mem_shiftsT l r (acc ++ [n])).1 h
      exact ⟨n :: k,⟨mem_nums.1 hn,hk⟩,by simpa using e⟩
    · rintro ⟨k,hk,e⟩
      cases k with
      | nil => exact hk.elim
      | cons n k => exact ⟨n,mem_nums.2 hk.1,(mem_shiftsT l r (acc ++ [n])).2 ⟨k,hk.2,by simpa using e⟩⟩
theorem shifts_top (sh : List R2) (l : List Int) : l ∈ shiftsT sh [] ↔ Ins l (conds sh) := by
  rw [mem_shiftsT]
  unfold conds
  cases sh with
  | nil =>
    simp only [List.nil_append]
    constructor
    · rintro ⟨k,hk,rfl⟩
      cases k with
      | nil => exact ⟨⟨Int.le_refl _,Int.le_refl _⟩,trivial⟩
      | cons v k => exact hk.elim
    · intro h
      cases l with
      | nil => exact h.elim
      | cons v l =>
        cases l with
        | nil =>
          have h1 : (0 : Int) ≤ v ∧ v ≤ 0 := h.1
          have : v = 0 := by omega
          subst this
          exact ⟨[],trivial,rfl⟩
        | cons _ _ => exact h.2.elim
  | cons s r =>
    rw [if_neg (by simp)]
    simp only [List.nil_append]
    constructor
    · rintro ⟨k,hk,rfl⟩
      cases k with
      | nil => exact hk.elim
      | cons v k => exact hk
    · intro h
      cases l with
      | nil => exact h.elim
      | cons v l => exact ⟨v :: l,h,rfl⟩
/-- What follows on strokes. -/
def reach (J : Jb) : List Int → Fd → Fd → Prop
  | [],t,x => x = t
  | s :: l,t,x => ∃ n w,((upR J s).1 ≤ n ∧ n ≤ (upR J s).2) ∧ ((weR J s).1 ≤ w ∧ w ≤ (weR J s).2) ∧ reach J l (nextF t s n w) x
theorem mem_allT (J : Jb) (q : Fd × List Int) : ∀ (l : List Int) (t : Fd),q ∈ allT J l t [] ↔ reach J l t q.1 ∧ q.2 ∈ shiftsT J.sh []
  | [],t => by
    rw [allT,reach,List.mem_map]
    constructor
    · rintro ⟨l,hl,rfl⟩
      exact ⟨rfl,by simpa using hl⟩
    · rintro ⟨h1,h2⟩
      exact ⟨q.2,by simpa using h2,by rw [← h1]⟩
  | s :: l,t => by
    rw [allT,reach]
    simp only [List.mem_flatMap,mem_nums]
    constructor
    · rintro ⟨n,hn,w,hw,h⟩
      obtain ⟨h1,h2⟩ := (mem_allT J q l _).1 h
      exact ⟨⟨n,w,hn,hw,h1⟩,h2⟩
    · rintro ⟨⟨n,w,hn,hw,h1⟩,h2⟩
      exact ⟨n,hn,w,hw,(mem_allT J q l _).2 ⟨h1,h2⟩⟩
/-- The costs of strokes are in order. -/
structure Jb.Ord (J : Jb) : Prop where
  u : J.u1 ≤ J.u2
  d : J.d1 ≤ J.d2
  x : J.x1 ≤ J.x2
  y : J.y1 ≤ J.y2
theorem split_sum {a b c d z : Int} (h1 : a ≤ b) (h2 : c ≤ d) (h : a + c ≤ z ∧ z ≤ b + d) : ∃ p n,(a ≤ p ∧ p ≤ b) ∧ (c ≤ n ∧ n ≤ d) ∧ z = p + n := by
  by_cases hc : z - d < a
  · exact ⟨a,z - a,by omega,by omega,by omega⟩
  · exact ⟨z - d,d,by omega,by omega,by omega⟩
theorem strk_ne {J : Jb} (hJ : J.Ord) {T : Tg} (hT : T.Ne) (s : Int) : (strk J T s).Ne := by
  obtain ⟨h1,h2,h3⟩ := hT
  obtain ⟨u,d,x,y⟩ := hJ
  unfold strk
  split
  · exact ⟨by simp only; omega,by simp only; omega,h3⟩
  · split
    · exact ⟨by simp only; omega,h2,by simp only; omega⟩
    · exact ⟨h1,h2,h3⟩
theorem strk_1 (J : Jb) (T : Tg) : strk J T 1 = { T with p1 := T.p1 + J.u1,p2 := T.p2 + J.u2,t1 := T.t1 - J.x2,t2 := T.t2 - J.x1 } := by unfold strk; exact if_pos rfl
theorem strk_2 (J : Jb) (T : Tg) : strk J T 2 = { T with p1 := T.p1 - J.d2,p2 := T.p2 - J.d1,r1 := T.r1 - J.y2,r2 := T.r2 - J.y1 } := by unfold strk; rw [if_neg (by decide)]; exact if_pos rfl
theorem upR_1 (J : Jb) : upR J 1 = (J.u1,J.u2) := rfl
theorem upR_2 (J : Jb) : upR J 2 = (-J.d2,-J.d1) := rfl
theorem weR_1 (J : Jb) : weR J 1 = (J.x1,J.x2) := rfl
theorem weR_2 (J : Jb) : weR J 2 = (J.y1,J.y2) := rfl
theorem nextF_1 (t : Fd) (n w : Int) : nextF t 1 n w = ⟨t.p + n,t.t - w,t.r⟩ := rfl
theorem nextF_2 (t : Fd) (n w : Int) : nextF t 2 n w = ⟨t.p + n,t.t,t.r - w⟩ := rfl
theorem strk_has {J : Jb} (hJ : J.Ord) {T : Tg} (hT : T.Ne) {s : Int} (hs : s = 1 ∨ s = 2) (z : Fd) : (strk J T s).has z ↔ ∃ t,T.has t ∧ ∃ n w,((upR J s).1 ≤ n ∧ n ≤ (upR J s).2) ∧ ((weR J s).1 ≤ w ∧ w ≤ (weR J s).2) ∧ nextF t s n w = z := by
  obtain ⟨h1,h2,h3⟩ := hT
  obtain ⟨u,d,x,y⟩ := hJ
  obtain ⟨zp,zt,zr⟩ := z
  rcases hs with rfl | rfl
  · rw [strk_1,upR_1,weR_1]
    constructor
    · rintro ⟨hp,ht,hr⟩
      simp only at hp ht hr
      obtain ⟨p,n,k1,k2,k3⟩ := split_sum h1 u hp
      obtain ⟨t,w,k4,k5,k6⟩ := split_sum (z := zt) h2 (show -J.x2 ≤ -J.x1 by omega) (by omega)
      refine ⟨⟨p,t,zr⟩,⟨k1,k4,hr⟩,n,-w,k2,⟨by show J.x1 ≤ _; omega,by show _ ≤ J.x2; omega⟩,?_⟩
      rw [nextF_1,k3,k6]
      simp only [Fd.mk.injEq]
      refine ⟨trivial,by omega,trivial⟩
    · rintro ⟨t,⟨tp,tt,tr⟩,n,w,hn,hw,e⟩
      rw [nextF_1] at e
      cases e
      simp only at hn hw
      exact ⟨⟨by simp only; omega,by simp only; omega⟩,⟨by simp only; omega,by simp only; omega⟩,tr⟩
  · rw [strk_2,upR_2,weR_2]
    constructor
    · rintro ⟨hp,ht,hr⟩
      simp only at hp ht hr
      obtain ⟨p,n,k1,k2,k3⟩ := split_sum (z := zp) h1 (show -J.d2 ≤ -J.d1 by omega) (by omega)
      obtain ⟨t,w,k4,k5,k6⟩ := split_sum (z := zr) h3 (show -J.y2 ≤ -J.y1 by omega) (by omega)
      refine ⟨⟨p,zt,t⟩,⟨k1,ht,k4⟩,n,-w,k2,⟨by show J.y1 ≤ _; omega,by show _ ≤ J.y2; omega⟩,?_⟩
      rw [nextF_2,k3,k6]
      simp only [Fd.mk.injEq]
      refine ⟨trivial,trivial,by omega⟩
    · rintro ⟨t,⟨tp,tt,tr⟩,n,w,hn,hw,e⟩
      rw [nextF_2] at e
      cases e
      simp only at hn hw
      exact ⟨⟨by simp only; omega,by simp only; omega⟩,tt,⟨by simp only; omega,by simp only; omega⟩⟩
theorem reach_has {J : Jb} (hJ : J.Ord) (x : Fd) : ∀ (l : List Int),(∀ s ∈ l,s = 1 ∨ s = 2) → ∀ (T : Tg),T.Ne → ((∃ t,T.has t ∧ reach J l t x) ↔ (afterS J T l).has x)
  | [],_,T,_ => by
    constructor
    · rintro ⟨t,ht,h⟩
      have h2 : x = t := h
      rw [h2]
      exact ht
    · intro h
      exact ⟨x,h,rfl⟩
  | s :: l,hl,T,hT => by
    have ih := reach_has hJ x l (fun s hs => hl s (List.mem_cons_of_mem _ hs)) (strk J T s) (strk_ne hJ hT s)
    show _ ↔ (afterS J (strk J T s) l).has x
    rw [← ih]
    constructor
    · rintro ⟨t,ht,n,w,hn,hw,h⟩
      exact ⟨_,(strk_has hJ hT (hl s List.mem_cons_self) _).2 ⟨t,ht,n,w,hn,hw,rfl⟩,h⟩
    · rintro ⟨z,hz,h⟩
      obtain ⟨t,ht,n,w,hn,hw,rfl⟩ := (strk_has hJ hT (hl s List.mem_cons_self) _).1 hz
      exact ⟨t,ht,n,w,hn,hw,h⟩
theorem after_ne {J : Jb} (hJ : J.Ord) : ∀ (l : List Int) (T : Tg),T.Ne → (afterS J T l).Ne
  | [],T,h => h
  | s :: l,T,h => after_ne hJ l (strk J T s) (strk_ne hJ h s)
/-- All truths are gone through, and no others. -/
theorem truths_all {J : Jb} (hJ : J.Ord) (hT : J.tg.Ne) (l : List Int) (hl : ∀ s ∈ l,s = 1 ∨ s = 2) : Truths J (afterS J J.tg l) (rootT J l) := by
  intro q
  rw [← shifts_top,← reach_has hJ q.1 l hl J.tg hT]
  unfold rootT
  simp only [List.mem_flatMap,mem_nums,mem_allT]
  constructor
  · rintro ⟨n,hn,t,ht,r,hr,h1,h2⟩
    exact ⟨⟨⟨n,t,r⟩,⟨hn,ht,hr⟩,h1⟩,h2⟩
  · rintro ⟨⟨⟨n,t,r⟩,⟨hn,ht,hr⟩,h1⟩,h2⟩
    exact ⟨n,hn,t,ht,r,hr,h1,h2⟩
/-- What all truths say, when they are gone through. -/
theorem all_said {J : Jb} (hJ : J.Ord) (hT : J.tg.Ne) (hw : 0 ≤ J.wi) (hs : OrdS J.sh) (l : List Int) (hl : ∀ s ∈ l,s = 1 ∨ s = 2) :
    let e := en0.notes J (rootT J l)
    let T := afterS J J.tg l
    (e.pl = T.p1 ∧ e.ph = T.p2 ∧ e.tl = T.t1 ∧ e.th = T.t2 ∧ e.rl = T.r1 ∧ e.rh = T.r2) ∧ e.worst = worstI J T ∧ toldI e.thin e.truths = spoilI J.le T ∧ toldI e.fine e.truths = fineI J T ∧ toldI e.passes e.truths = passI J.wi J.sh T.p1 T.p2 := by
  have h := of_notes (rootT J l) [] en0 (of_nil J)
  rw [List.nil_append] at h
  exact all_ok h (truths_all hJ hT l hl) (after_ne hJ l J.tg hT) hw hs
end Go.Proofs.Ytolabejbhaeddaa
/- Pots: step and Upto. -/
namespace Go.Proofs.Ytolabejbhaeddaa
set_option linter.all false
open Go.RowKit
def stepS (s : Int) : Int := IntKind.u64.wrap (IntKind.u64.wrap (s * 6364136223846793005) + 1442695040888963407)
def mixA (x c : Int) : Int := IntKind.u64.wrap (bits BinOp.xor IntKind.u64 x (x / 8589934592) * c)
def stepX (s : Int) : Int := bits BinOp.xor IntKind.u64 (mixA (mixA (stepS s) 18397679294719823053) 14181476777654086739) (mixA (mixA (stepS s) 18397679294719823053) 14181476777654086739 / 8589934592)
set_option maxHeartbeats 400000 in
theorem step_any (b : Nat) (s : Int) (w : World) (h : w.cell? ⟨b,0,none⟩ = some (.int .u64 s)) (hf : w.frozen? ⟨b,0,none⟩ = false) :
    Calls Try.prog 57 #[.pointer (some ⟨b,0,none⟩)] w fun e w' => e = .returned (.int .u64 (stepX s)) ∧ w' = w.setCell ⟨b,0,none⟩ (.int .u64 (stepS s)) := by
  go_enter Try.func57,Try.ntmps57
  go_wp2
  go_ret
  exact ⟨rfl,rfl⟩
/-- What Upto answers, and what the pot is then. -/
def uptoF (s m : Int) : Int := if m < 1 then 0 else wrap64 ((stepX s / 2048).tmod (m + 1))
def uptoS (s m : Int) : Int := if m < 1 then s else stepS s
theorem stepX_in (s : Int) : 0 ≤ stepX s ∧ stepX s ≤ 18446744073709551615 := bits_within .xor .u64 _ _
theorem uptoF_in (s m : Int) (h : m ≤ 1000) : 0 ≤ uptoF s m ∧ (uptoF s m ≤ m ∨ uptoF s m = 0) := by
  unfold uptoF
  by_cases h1 : m < 1
  · rw [if_pos h1]; omega
  · rw [if_neg h1]
    have h2 := stepX_in s
    have h3 : 0 ≤ stepX s / 2048 := by omega
    have h4 : (stepX s / 2048).tmod (m + 1) = (stepX s / 2048) % (m + 1) := Int.tmod_eq_emod_of_nonneg h3
    have h5 := Int.emod_nonneg (stepX s / 2048) (show m + 1 ≠ 0 by omega)
    have h6 := Int.emod_lt_of_pos (stepX s / 2048) (show 0 < m + 1 by omega)
    rw [h4,show wrap64 ((stepX s / 2048) % (m + 1)) = (stepX s / 2048) % (m + 1) from IntWalk.wrap64_in _ (by omega)]
    omega
/-- The pot's cell is another one, or nothing is. -/
def Put (w w' : World) (b : Nat) (s s' : Int) : Prop := w' = w.setCell ⟨b,0,none⟩ (.int .u64 s') ∨ (w' = w ∧ s' = s)
theorem Put.cell {w w' : World} {b q p : Nat} {s s' : Int} {v : Value} (h : Put w w' b s s') (hbq : b ≠ q) (hv : w.cell? ⟨q,p,none⟩ = some v) : w'.cell? ⟨q,p,none⟩ = some v := by
  rcases h with rfl | ⟨rfl,_⟩
  · exact (World.cell?_setCell_other w _ _ _ (by intro e; cases e; exact hbq rfl)).trans hv
  · exact hv
set_option maxHeartbeats 400000 in
theorem upto_less (b : Nat) (m : Int) (w : World) (hm : m < 1) :
    Calls Try.prog 22 #[.pointer (some ⟨b,0,none⟩),.int .i64 m] w fun e w' => e = .returned (.int .i64 0) ∧ w' = w := by
  go_enter Try.func22,Try.ntmps22
  go_wp2
  go_ret
  exact ⟨rfl,rfl⟩
set_option maxHeartbeats 400000 in
theorem upto_more (b : Nat) (s m : Int) (w : World) (hm : 1 ≤ m ∧ m ≤ 1000) (h : w.cell? ⟨b,0,none⟩ = some (.int .u64 s)) (hf : w.frozen? ⟨b,0,none⟩ = false) :
    Calls Try.prog 22 #[.pointer (some ⟨b,0,none⟩),.int .i64 m] w fun e w' => e = .returned (.int .i64 (wrap64 ((stepX s / 2048).tmod (m + 1)))) ∧ w' = w.setCell ⟨b,0,none⟩ (.int .u64 (stepS s)) := by
  obtain ⟨h1,h2⟩ := hm
  have hz : ¬ m < 1 := by omega
  go_enter Try.func22,Try.ntmps22
  go_wp2_with (go_at_call 57; refine (step_any _ _ _ h hf).mono ?_; rintro e w1 ⟨rfl,rfl⟩)
  go_ret
  exact ⟨rfl,rfl⟩
theorem upto_any (b : Nat) (s m : Int) (w : World) (hm : m ≤ 1000) (h : w.cell? ⟨b,0,none⟩ = some (.int .u64 s)) (hf : w.frozen? ⟨b,0,none⟩ = false) :
    Calls Try.prog 22 #[.pointer (some ⟨b,0,none⟩),.int .i64 m] w fun e w' => e = .returned (.int .i64 (uptoF s m)) ∧ Put w w' b s (uptoS s m) := by
  unfold uptoF uptoS
  by_cases h1 : m < 1
  · rw [if_pos h1,if_pos h1]
    exact (upto_less b m w h1).mono fun e w' ⟨he,hw⟩ => ⟨he,.inr ⟨hw,rfl⟩⟩
  · rw [if_neg h1,if_neg h1]
    exact (upto_more b s m w (by omega) h hf).mono fun e w' ⟨he,hw⟩ => ⟨he,.inl hw⟩
def pick3 (x y z u : Int) : Int := if u = 0 then x else if u = 1 then y else z
set_option maxHeartbeats 400000 in
theorem of3_any (b q o : Nat) (s x y z : Int) (w : World) (h : w.cell? ⟨b,0,none⟩ = some (.int .u64 s)) (hf : w.frozen? ⟨b,0,none⟩ = false) (hbq : b ≠ q)
    (h0 : w.cell? ⟨q,o,none⟩ = some (.int .i64 x)) (h1 : w.cell? ⟨q,o + 1,none⟩ = some (.int .i64 y)) (h2 : w.cell? ⟨q,o + 2,none⟩ = some (.int .i64 z)) :
    Calls Try.prog 21 #[.pointer (some ⟨b,0,none⟩),.slice (some ⟨q,o,none⟩) 3 3] w fun e w' => e = .returned (.int .i64 (pick3 x y z (uptoF s 2))) ∧ Put w w' b s (uptoS s 2) := by
  have hu := uptoF_in s 2 (by omega)
  have hcase : uptoF s 2 = 0 ∨ uptoF s 2 = 1 ∨ uptoF s 2 = 2 := by omega
  rcases hcase with e0 | e0 | e0
  · have he : pick3 x y z (uptoF s 2) = x := by rw [e0]; rfl
    clear hu
    go_enter Try.func21,Try.ntmps21
    go_wp2_with (go_at_call 22; refine (upto_any _ _ _ _ (by decide) h hf).mono ?_; rintro e w1 ⟨rfl,hp⟩; have g0 := hp.cell hbq h0; have g1 := hp.cell hbq h1; have g2 := hp.cell hbq h2)
    go_ret
    exact ⟨by rw [he]; rfl,hp⟩
  · have he : pick3 x y z (uptoF s 2) = y := by rw [e0]; rfl
    clear hu
    go_enter Try.func21,Try.ntmps21
    go_wp2_with (go_at_call 22; refine (upto_any _ _ _ _ (by decide) h hf).mono ?_; rintro e w1 ⟨rfl,hp⟩; have g0 := hp.cell hbq h0; have g1 := hp.cell hbq h1; have g2 := hp.cell hbq h2)
    go_ret
    exact ⟨by rw [he]; rfl,hp⟩
  · have he : pick3 x y z (uptoF s 2) = z := by rw [e0]; rfl
    clear hu
    go_enter Try.func21,Try.ntmps21
    go_wp2_with (go_at_call 22; refine (upto_any _ _ _ _ (by decide) h hf).mono ?_; rintro e w1 ⟨rfl,hp⟩; have g0 := hp.cell hbq h0; have g1 := hp.cell hbq h1; have g2 := hp.cell hbq h2)
    go_ret
    exact ⟨by rw [he]; rfl,hp⟩
end Go.Proofs.Ytolabejbhaeddaa
/- Contracts of what a pot hands out: which numbers, and what is changed. -/
namespace Go.Proofs.Ytolabejbhaeddaa
set_option linter.all false
open Go.RowKit

/-- Block b is a pot. -/
def Pt (w : World) (b : Nat) : Prop := ∃ t s,Bk w b t #[.int .u64 s]
/-- Of what lay under B, the pot alone may have been changed. -/
structure PB (b B : Nat) (w w' : World) : Prop where
  os : w'.os = w.os
  tape : w'.tape = w.tape
  output : w'.output = w.output
  size : w.heap.size ≤ w'.heap.size
  heap : ∀ k,k < B → k ≠ b → w'.heap[k]? = w.heap[k]?
section
variable {b B B' : Nat} {w w' w'' : World} {t : TypeId} {s : Int} {p : Addr}
theorem Pt.lt (h : Pt w b) : b < w.heap.size := by obtain ⟨t,s,h⟩ := h; exact h.lt
theorem Pt.alloc (h : Pt w b) (o : Obj) : Pt (w.alloc o) b := by obtain ⟨t,s,h⟩ := h; exact ⟨t,s,h.alloc o⟩
theorem Pt.drew (h : Pt w b) : Pt w.drew b := h
theorem Pt.other (h : Pt w b) (hp : b ≠ p.block) (u : Value) : Pt (w.setCell p u) b := by obtain ⟨t,s,h⟩ := h; exact ⟨t,s,h.other hp u⟩
theorem Pt.below (h : Pt w b) (hb : Below B w w') (hg : b < B) : Pt w' b := by obtain ⟨t,s,h⟩ := h; exact ⟨t,s,h.below hb hg⟩
theorem Pt.grown {row : Option Nat} (h : Pt w b) (hb : w.grownBy w' row) (hg : some b ≠ row) : Pt w' b := by obtain ⟨t,s,h⟩ := h; exact ⟨t,s,h.grown hb hg⟩
theorem Pt.rowOther (h : Pt w b) {g : Nat} (hk : b ≠ g) (ds : Array Value) : Pt (w.setRow g ds) b := by obtain ⟨t,s,h⟩ := h; exact ⟨t,s,h.rowOther hk ds⟩
theorem PB.refl (b B : Nat) (w : World) : PB b B w w := ⟨rfl,rfl,rfl,Nat.le_refl _,fun _ _ _ => rfl⟩
theorem PB.trans (h : PB b B w w') (h' : PB b B' w' w'') (hB : B ≤ B') : PB b B w w'' := ⟨h'.os.trans h.os,h'.tape.trans h.tape,h'.output.trans h.output,Nat.le_trans h.size h'.size,fun k hk hb => (h'.heap k (Nat.lt_of_lt_of_le hk hB) hb).trans (h.heap k hk hb)⟩
theorem PB.below (h : PB b B w w') (h' : Below B' w' w'') (hB : B ≤ B') : PB b B w w'' := ⟨h'.os.trans h.os,h'.tape.trans h.tape,h'.output.trans h.output,Nat.le_trans h.size h'.size,fun k hk hb => (h'.block k (Nat.lt_of_lt_of_le hk hB)).trans (h.heap k hk hb)⟩
theorem PB.of (h : Below B w w') : PB b B w w' := ⟨h.os,h.tape,h.output,h.size,fun k hk _ => h.block k hk⟩
theorem PB.toBelow (h : PB b B w w') (hB : B ≤ b) : Below B w w' := ⟨h.os,h.tape,h.output,h.size,fun k hk => h.heap k hk (by omega)⟩
theorem PB.mono (h : PB b B w w') (hB : B' ≤ B) : PB b B' w w' := ⟨h.os,h.tape,h.output,h.size,fun k hk => h.heap k (by omega)⟩
theorem PB.alloc (h : PB b B w w') (hB : B ≤ w'.heap.size) (o : Obj) : PB b B w (w'.alloc o) := h.below ((Below.refl _ _).alloc hB o) (Nat.le_refl _)
theorem PB.setCell (h : PB b B w w') (hp : B ≤ p.block) (u : Value) : PB b B w (w'.setCell p u) := h.below ((Below.refl _ _).setCell hp u) (Nat.le_refl _)
/-- Blocks, ranges and numbers that are no pot are as they were. -/
theorem Bk.pb {g : Nat} {cs : Array Value} (h : Bk w g t cs) (hk : PB b B w w') (hg : g < B) (hb : g ≠ b) : Bk w' g t cs := (hk.heap g hg hb).trans h
theorem Pt.cell {i : Nat} {v : Value} (h : Pt w b) (hc : w.cell? ⟨b,i,none⟩ = some v) : ∃ s,v = .int .u64 s := by
  obtain ⟨t,s,h⟩ := h
  rw [cell_of_row w b i _ t (0,0) h] at hc
  cases i with
  | zero => exact ⟨s,by simpa using hc.symm⟩
  | succ i => simp at hc
theorem PB.cell (h : PB b B w w') (hp : p.block < B) (hb : p.block ≠ b) : w'.cell? p = w.cell? p := World.cell?_of_block (h.heap _ hp hb)
theorem Rg.pb {a : Option Addr} {l : List R2} (h : Rg w w.heap.size a l) (hp : Pt w b) (hk : PB b w.heap.size w w') : Rg w' w'.heap.size a l := fun k r hr => by
  obtain ⟨g,off,e,hg,h1,h2⟩ := h k r hr
  have hne : g ≠ b := by
    rintro rfl
    obtain ⟨s,e⟩ := hp.cell h1
    cases e
  have := hk.size
  exact ⟨g,off,e,by omega,(hk.cell hg hne).trans h1,(hk.cell hg hne).trans h2⟩
theorem Is.pb {a : Option Addr} {l : List Int} (h : Is w w.heap.size a l) (hp : Pt w b) (hk : PB b w.heap.size w w') : Is w' w'.heap.size a l := fun k r hr => by
  obtain ⟨g,off,e,hg,h1⟩ := h k r hr
  have hne : g ≠ b := by
    rintro rfl
    obtain ⟨s,e⟩ := hp.cell h1
    cases e
  have := hk.size
  exact ⟨g,off,e,by omega,(hk.cell hg hne).trans h1⟩
theorem Put.pb {s' : Int} (hb : Bk w b t #[.int .u64 s]) (h : Put w w' b s s') : PB b w.heap.size w w' ∧ Pt w' b := by
  rcases h with rfl | ⟨rfl,_⟩
  · exact ⟨⟨rfl,rfl,rfl,by simp,fun k hk hkb => Below.heap_setCell w _ _ k hkb⟩,t,s',hb.put1 _⟩
  · exact ⟨PB.refl _ _ _,t,s,hb⟩
end

/-- What is said of a call that takes numbers out of a pot. -/
def PotEnd (b : Nat) (w : World) (P : Int → Prop) (e : Ending) (w' : World) : Prop := ∃ x,e = .returned (.int .i64 x) ∧ P x ∧ PB b w.heap.size w w' ∧ Pt w' b
theorem uptoP (b : Nat) (m : Int) (w : World) (hp : Pt w b) (hm : 0 ≤ m ∧ m ≤ 1000) : Calls Try.prog 22 #[.pointer (some ⟨b,0,none⟩),.int .i64 m] w (PotEnd b w fun x => 0 ≤ x ∧ x ≤ m) := by
  obtain ⟨t,s,hb⟩ := hp
  refine (upto_any b s m w hm.2 (hb.at_ 0 _ rfl) (hb.free 0)).mono ?_
  rintro e w' ⟨rfl,hput⟩
  have h1 := uptoF_in s m hm.2
  have h2 := hput.pb hb
  exact ⟨_,rfl,by omega,h2.1,h2.2⟩
set_option maxHeartbeats 400000 in
theorem withinP (b : Nat) (lo hi : Int) (w : World) (hp : Pt w b) (h : -400 ≤ lo ∧ lo ≤ hi ∧ hi ≤ 400) : Calls Try.prog 17 #[.pointer (some ⟨b,0,none⟩),.int .i64 lo,.int .i64 hi] w (PotEnd b w fun x => lo ≤ x ∧ x ≤ hi) := by
  obtain ⟨h1,h2,h3⟩ := h
  go_enter Try.func17,Try.ntmps17
  go_wp2_with (go_at_call 22; refine (uptoP _ _ _ hp (by omega)).mono ?_; rintro e w1 ⟨x,rfl,hx,hk,hp1⟩; obtain ⟨hx1,hx2⟩ := hx)
  go_ret
  exact ⟨_,rfl,by omega,hk,hp1⟩
def pick2 (x y u : Int) : Int := if u = 0 then x else y
set_option maxHeartbeats 400000 in
theorem of2_any (b q o : Nat) (s x y : Int) (w : World) (h : w.cell? ⟨b,0,none⟩ = some (.int .u64 s)) (hf : w.frozen? ⟨b,0,none⟩ = false) (hbq : b ≠ q)
    (h0 : w.cell? ⟨q,o,none⟩ = some (.int .i64 x)) (h1 : w.cell? ⟨q,o + 1,none⟩ = some (.int .i64 y)) :
    Calls Try.prog 21 #[.pointer (some ⟨b,0,none⟩),.slice (some ⟨q,o,none⟩) 2 2] w fun e w' => e = .returned (.int .i64 (pick2 x y (uptoF s 1))) ∧ Put w w' b s (uptoS s 1) := by
  have hu := uptoF_in s 1 (by omega)
  have hcase : uptoF s 1 = 0 ∨ uptoF s 1 = 1 := by omega
  rcases hcase with e0 | e0
  · have he : pick2 x y (uptoF s 1) = x := by rw [e0]; rfl
    clear hu
    go_enter Try.func21,Try.ntmps21
    go_wp2_with (go_at_call 22; refine (upto_any _ _ _ _ (by decide) h hf).mono ?_; rintro e w1 ⟨rfl,hp⟩; have g0 := hp.cell hbq h0; have g1 := hp.cell hbq h1)
    go_ret
    exact ⟨by rw [he]; rfl,hp⟩
  · have he : pick2 x y (uptoF s 1) = y := by rw [e0]; rfl
    clear hu
    go_enter Try.func21,Try.ntmps21
    go_wp2_with (go_at_call 22; refine (upto_any _ _ _ _ (by decide) h hf).mono ?_; rintro e w1 ⟨rfl,hp⟩; have g0 := hp.cell hbq h0; have g1 := hp.cell hbq h1)
    go_ret
    exact ⟨by rw [he]; rfl,hp⟩
theorem of2P (b q : Nat) (x y : Int) (t : TypeId) (w : World) (hp : Pt w b) (hbq : b ≠ q) (hq : Bk w q t #[.int .i64 x,.int .i64 y]) : Calls Try.prog 21 #[.pointer (some ⟨b,0,none⟩),.slice (some ⟨q,0,none⟩) 2 2] w (PotEnd b w fun v => v = x ∨ v = y) := by
  obtain ⟨tb,s,hb⟩ := hp
  refine (of2_any b q 0 s x y w (hb.at_ 0 _ rfl) (hb.free 0) hbq (hq.at_ 0 _ rfl) (hq.at_ 1 _ rfl)).mono ?_
  rintro e w' ⟨rfl,hput⟩
  have h2 := hput.pb hb
  refine ⟨_,rfl,?_,h2.1,h2.2⟩
  unfold pick2
  split
  · exact .inl rfl
  · exact .inr rfl
theorem of3P (b q : Nat) (x y z : Int) (t : TypeId) (w : World) (hp : Pt w b) (hbq : b ≠ q) (hq : Bk w q t #[.int .i64 x,.int .i64 y,.int .i64 z]) : Calls Try.prog 21 #[.pointer (some ⟨b,0,none⟩),.slice (some ⟨q,0,none⟩) 3 3] w (PotEnd b w fun v => v = x ∨ v = y ∨ v = z) := by
  obtain ⟨tb,s,hb⟩ := hp
  refine (of3_any b q 0 s x y z w (hb.at_ 0 _ rfl) (hb.free 0) hbq (hq.at_ 0 _ rfl) (hq.at_ 1 _ rfl) (hq.at_ 2 _ rfl)).mono ?_
  rintro e w' ⟨rfl,hput⟩
  have h2 := hput.pb hb
  refine ⟨_,rfl,?_,h2.1,h2.2⟩
  unfold pick3
  split
  · exact .inl rfl
  · split
    · exact .inr (.inl rfl)
    · exact .inr (.inr rfl)
end Go.Proofs.Ytolabejbhaeddaa
/- Contract of Inner. -/
namespace Go.Proofs.Ytolabejbhaeddaa
set_option linter.all false
open Go.RowKit

end Go.Proofs.Ytolabejbhaeddaa
/- The contract of reed.Hear on valid jobs, any reading. -/
namespace Go.Proofs.Ytolabejbhaeddaa
set_option linter.all false
open Go.RowKit
end Go.Proofs.Ytolabejbhaeddaa
/- What truly is so lies within what is told. -/
namespace Go.Proofs.Ytolabejbhaeddaa
set_option linter.all false
open Go.RowKit
end Go.Proofs.Ytolabejbhaeddaa
/- Contracts of FiledOf and Strike. -/
namespace Go.Proofs.Ytolabejbhaeddaa
set_option linter.all false
open Go.RowKit

abbrev fdV (x : Fd) : Value := .agg #[.int .i64 x.p,.int .i64 x.t,.int .i64 x.r]
end Go.Proofs.Ytolabejbhaeddaa
/- The law ReedAll: told and far. -/
namespace Go.Proofs.Ytolabejbhaeddaa
set_option linter.all false
open Go.RowKit
theorem told_any (so all : Int) (w : World) : Calls Try.prog 29 #[.int .i64 so,.int .i64 all] w fun e w' => e = .returned (.int .i64 (toldI so all)) ∧ Below w.heap.size w w' := by
  by_cases h1 : so = all
  · have e : toldI so all = 1 := by unfold toldI; rw [if_pos h1]
    rw [e]
    subst h1
    clear e
    go_enter Try.func29,Try.ntmps29
    go_wp2_with fail
    go_ret
    exact ⟨rfl,Below.refl _ _⟩
  · have b1 : (so == all) = false := by simp [h1]
    by_cases h2 : so = 0
    · have e : toldI so all = 2 := by unfold toldI; rw [if_neg h1,if_pos h2]
      rw [e]
      subst h2
      clear e
      go_enter Try.func29,Try.ntmps29
      go_wp2_with fail
      go_ret
      exact ⟨rfl,Below.refl _ _⟩
    · have e : toldI so all = 3 := by unfold toldI; rw [if_neg h1,if_neg h2]
      have b2 : (so == 0) = false := by simp [h2]
      rw [e]
      clear e
      go_enter Try.func29,Try.ntmps29
      go_wp2_with fail
      go_ret
      exact ⟨rfl,Below.refl _ _⟩
theorem far_take (p : Int) (hp : -500 ≤ p ∧ p ≤ 500) (l : List Int) (hl : ∀ s ∈ l,-100 ≤ s ∧ s ≤ 100) (k : Nat) : 0 ≤ (l.take k).foldl (farStep p) 0 ∧ (l.take k).foldl (farStep p) 0 ≤ 1000 :=
  far_bnd p hp _ 0 (fun s hs => hl s (List.mem_of_mem_take hs)) (by decide)
set_option maxHeartbeats 9000000 in
set_option maxRecDepth 100000 in
theorem far_any (p : Int) (hp : -500 ≤ p ∧ p ≤ 500) (a : Option Addr) (n c : Nat) (l : List Int) (w : World) (hn : n = l.length) (hm : n ≤ 4) (hl : ∀ s ∈ l,-100 ≤ s ∧ s ≤ 100) (h : Is w w.heap.size a l) :
    Calls Try.prog 84 #[.int .i64 p,.slice a n c] w fun e w' => e = .returned (.int .i64 (farI p l)) ∧ Below w.heap.size w w' := by
  have Hl := hidMk hl
  have Hn := hidMk hn
  have Hh := hidMk h
  obtain ⟨hp1,hp2⟩ := hp
  clear hl hn h
  go_enter Try.func84,Try.ntmps84
  go_wp2_with fail
  go_loopw [5,6] (fun v i wr => ∃ k : Nat,k ≤ n ∧ i = .int .i64 k ∧ v = .int .i64 ((l.take k).foldl (farStep p) 0) ∧ Below w.heap.size w wr) (fun _ i _ => n - (intOf i).toNat)
  case atStart => exact ⟨0,Nat.zero_le _,rfl,rfl,Below.refl _ _⟩
  case round =>
    obtain ⟨k,hk,rfl,rfl,hB⟩ := hrel
    have hs := hB.size
    obtain ⟨hv1,hv2⟩ := far_take p ⟨hp1,hp2⟩ l Hl.out k
    by_cases hlt : k < n
    · have hkl : k < l.length := by rw [← Hn.out]; exact hlt
      obtain ⟨b,off,rfl,hbl,e0⟩ := Hh.out k l[k] (List.getElem?_eq_getElem hkl)
      replace e0 := (hB.cell (p := ⟨b,off + k,none⟩) hbl).trans e0
      have hbl' : b < wr.heap.size := by omega
      obtain ⟨s1,s2⟩ := Hl.out _ (List.getElem_mem hkl)
      have htk := hidMk (take_snoc l k hkl)
      obtain ⟨s,Hs⟩ : ∃ s,Hid (s = l[k]) := ⟨_,hidMk rfl⟩
      rw [← Hs.out] at e0 s1 s2
      obtain ⟨v,Hv⟩ : ∃ v,Hid (v = (l.take k).foldl (farStep p) 0) := ⟨_,hidMk rfl⟩
      rw [← Hv.out] at hv1 hv2 ⊢
      go_wp2_with fail
      go_region
      go_wp2_with fail
      go_roundw
      case rel => exact ⟨k + 1,by omega,by go_num,by rw [htk.out,far_snoc,← Hv.out,← Hs.out]; unfold farStep mx; go_num,by first | exact hB | exact hB.drew⟩
      case measure => simp [intOf]; omega
    · obtain rfl : k = n := by omega
      go_wp2_with fail
      go_ret
      refine ⟨?_,hB⟩
      unfold farI
      rw [show l.take k = l by rw [Hn.out]; exact List.take_length]
      rfl
end Go.Proofs.Ytolabejbhaeddaa
/- Contract of StrokesOf. -/
namespace Go.Proofs.Ytolabejbhaeddaa
set_option linter.all false
open Go.RowKit
theorem PB.grown {b : Nat} {w w' : World} (h : PB b w.heap.size w w') : w.grownBy w' (some b) := ⟨h.os,h.tape,h.output,h.size,fun k hk hb => h.heap k hk (fun e => hb (by rw [e]))⟩
theorem PB.grownTo {b B : Nat} {w w' w'' : World} {row : Option Nat} (h : PB b B w w') (hg : w'.grownBy w'' row) (hB : B ≤ w'.heap.size) (hr : ∀ g,row = some g → B ≤ g) : PB b B w w'' :=
  ⟨hg.os.trans h.os,hg.tape.trans h.tape,hg.output.trans h.output,Nat.le_trans h.size hg.size,fun k hk hb => (hg.block k (Nat.lt_of_lt_of_le hk hB) (fun e => by have := hr k e.symm; omega)).trans (h.heap k hk hb)⟩
theorem own_pb {b base e size n : Nat} {w w' : World} {v : Value} {xs : List Value} (h : w.ownsRow base e size v n xs) (hb : b < base) (hk : PB b w.heap.size w w') : w'.ownsRow base e size v n xs :=
  h.kept hk.grown (by
    cases hv : v.ownBlock with
    | none => exact .inl rfl
    | some g => exact .inr fun e => by have := (h.lt g hv).1; cases e; omega)
theorem infoInt : (Try.prog.info? 3).map (fun i => (i.zero,i.size,i.bytes)) = some (some (.int .i64 0),1,8) := by kernel_rfl
theorem news_one {W : World} {g : Nat} {t : TypeId} {x : Value} (h : Bk W g t #[x]) : ∀ j u,[x][j]? = some u → W.cell? ((⟨g,0,none⟩ : Addr).add j) = some u := by
  intro j u hj
  have : (⟨g,0,none⟩ : Addr).add j = ⟨g,j,none⟩ := by unfold Addr.add; split <;> simp_all
  rw [this]
  exact h.at_ j u (by simpa using hj)
theorem Is.of_own {w : World} {B e n : Nat} {v : Value} {l : List Int} (h : w.ownsRow B e 1 v n (l.map (Value.int .i64))) : ∃ a c,v = .slice a n c ∧ n = l.length ∧ Is w w.heap.size a l := by
  have hl := h.1
  simp only [List.length_map] at hl
  rcases h.2 with ⟨rfl,rfl⟩ | ⟨g,cap,cur,rfl,hb,hg,hnc,hcm,hcs,htk⟩
  · have e : l = [] := List.length_eq_zero_iff.1 (by omega)
    subst e
    exact ⟨none,0,rfl,rfl,Is.nil _ _ _⟩
  · refine ⟨some ⟨g,0,none⟩,cap,rfl,by omega,fun k x hk => ⟨g,0,rfl,(Array.getElem?_eq_some_iff.1 hg).1,?_⟩⟩
    have hkl := (List.getElem?_eq_some_iff.1 hk).1
    rw [cell_of_row w g (0 + k) cur e (0,0) hg,Nat.zero_add,← Array.getElem?_toList]
    have h1 : (cur.toList.take (n * 1))[k]? = some (.int .i64 x) := by rw [htk]; simp [hk]
    rw [List.getElem?_take_of_lt (by omega)] at h1
    exact h1
end Go.Proofs.Ytolabejbhaeddaa
