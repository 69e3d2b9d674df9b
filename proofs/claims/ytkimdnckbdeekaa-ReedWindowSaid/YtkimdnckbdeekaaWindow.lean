/- The contract of reed.Window. -/
import Derived.Test.YtkimdnckbdeekaaWin
import Derived.Test.YtkimdnckbdeekaaChk
import Derived.Laws.ResultCell
namespace Go.Proofs.Ytkimdnckbdeekaa
open Go.RowKit

/-- What Window answers: a range, and an error. -/
def windowI (J : Jb) : R2 × Int :=
  if J.check ≠ 0 then ((0, 0), J.check) else if (win J.wi J.sh).2 < (win J.wi J.sh).1 then ((0, 0), 11) else (win J.wi J.sh, 0)

/-- All that Check looks at lies within its bounds. -/
theorem rngE_ok {a b lo hi : Int} (h : rngE a b lo hi = 0) : lo ≤ a ∧ a ≤ hi ∧ lo ≤ b ∧ b ≤ hi ∧ a ≤ b := by
  unfold rngE at h
  by_cases h1 : a < lo ∨ hi < a
  · rw [if_pos h1] at h; omega
  · rw [if_neg h1] at h
    by_cases h2 : b < lo ∨ hi < b
    · rw [if_pos h2] at h; omega
    · rw [if_neg h2] at h
      by_cases h3 : b < a
      · rw [if_pos h3] at h; omega
      · omega
theorem numE_ok {a lo hi : Int} (h : numE a lo hi = 0) : lo ≤ a ∧ a ≤ hi := by
  unfold numE at h
  by_cases h1 : a < lo ∨ hi < a
  · rw [if_pos h1] at h; omega
  · omega
theorem firstE_ok : ∀ (l : List Int), firstE l = 0 → ∀ x ∈ l, x = 0
  | [], _, x, h => by simp at h
  | e :: l, h, x, hx => by
    unfold firstE at h
    by_cases h0 : e = 0
    · rw [if_pos h0] at h
      rcases List.mem_cons.1 hx with rfl | hx
      · exact h0
      · exact firstE_ok l h x hx
    · rw [if_neg h0] at h; exact absurd h h0
theorem shE_ok : ∀ (l : List R2), shE l = 0 → ∀ s ∈ l, rngE s.1 s.2 (-60) 60 = 0
  | [], _, s, h => by simp at h
  | e :: l, h, s, hs => by
    unfold shE at h
    by_cases h0 : rngE e.1 e.2 (-60) 60 = 0
    · rw [if_pos h0] at h
      rcases List.mem_cons.1 hs with rfl | hs
      · exact h0
      · exact shE_ok l h s hs
    · rw [if_neg h0] at h; exact absurd h h0

/-- A valid job's numbers, and that its ranges are none upside down. -/
structure Jb.Ok (J : Jb) : Prop where
  inn : J.In 100
  p : J.p1 ≤ J.p2
  t : J.t1 ≤ J.t2
  r : J.r1 ≤ J.r2
  u : J.u1 ≤ J.u2
  d : J.d1 ≤ J.d2
  x : J.x1 ≤ J.x2
  y : J.y1 ≤ J.y2
  s : ∀ s ∈ J.sh, s.1 ≤ s.2
theorem check_ok {J : Jb} (h : J.check = 0) : J.Ok := by
  unfold Jb.check at h
  by_cases h0 : J.head = 0
  · rw [if_pos h0] at h
    by_cases h1 : 4 < J.sh.length
    · rw [if_pos h1] at h; omega
    · rw [if_neg h1] at h
      by_cases h2 : shE J.sh = 0
      · rw [if_pos h2] at h
        have a := firstE_ok _ h0
        have b := firstE_ok _ h
        have s := shE_ok _ h2
        have a1 := rngE_ok (a _ (by simp : rngE J.p1 J.p2 (-60) 60 ∈ _))
        have a2 := rngE_ok (a _ (by simp : rngE J.t1 J.t2 0 100 ∈ _))
        have a3 := rngE_ok (a _ (by simp : rngE J.r1 J.r2 0 100 ∈ _))
        have a4 := rngE_ok (a _ (by simp : rngE J.u1 J.u2 0 12 ∈ _))
        have a5 := rngE_ok (a _ (by simp : rngE J.d1 J.d2 0 12 ∈ _))
        have a6 := rngE_ok (a _ (by simp : rngE J.x1 J.x2 0 12 ∈ _))
        have a7 := rngE_ok (a _ (by simp : rngE J.y1 J.y2 0 12 ∈ _))
        have a8 := numE_ok (a _ (by simp : numE J.le 0 100 ∈ _))
        have b1 := numE_ok (b _ (by simp : numE J.wi 0 60 ∈ _))
        have b2 := numE_ok (b _ (by simp : numE J.me 0 6 ∈ _))
        refine ⟨⟨by omega, by omega, by omega, by omega, by omega, by omega, by omega, by omega, by omega, by omega, by omega, by omega, by omega, by omega, by omega, by omega, by omega, fun q hq => ?_, by omega⟩, by omega, by omega, by omega, by omega, by omega, by omega, by omega, fun q hq => (rngE_ok (s q hq)).2.2.2.2⟩
        have := rngE_ok (s q hq)
        omega
      · rw [if_neg h2] at h; exact absurd h h2
  · rw [if_neg h0] at h; exact absurd h h0

/-- What Window hands back. -/
def WindowEnd (J : Jb) (w : World) (e : Ending) (w' : World) : Prop :=
  e = .returned (.tuple #[.agg #[.int .i64 (windowI J).1.1, .int .i64 (windowI J).1.2], .int .i64 (windowI J).2]) ∧ Below w.heap.size w w'

theorem results_row_tmp {P : Program} {fn : Func} {p u : Tmp} {ty : TypeId} {fs : Array Field} (h : fn.results = #[.cell p ty, .tmp u]) (tmps : Array Value) (w : World) (g : Nat) (t : TypeId) (cs : Array Value) (v : Value)
    (hp : tmps.getD p undef = .pointer (some ⟨g, 0, none⟩)) (hv : tmps.getD u undef = v) (hg : Bk w g t cs)
    (hu : P.underlying ty = some (.struct fs)) (hi : (P.info? ty).map (·.size) = some cs.size) :
    (results fn tmps).run P w = .ok (.tuple #[.agg cs, v]) w := by
  have hp' : tmps[p]?.getD undef = .pointer (some ⟨g, 0, none⟩) := by simpa using hp
  have hv' : tmps[u]?.getD undef = v := by simpa using hv
  simp [results, h, hp', hv', asAddr, run_loadVar_row w g t ty cs (0, 0) _ hg hu rfl hi]

set_option maxHeartbeats 1000000 in
set_option maxRecDepth 100000 in
theorem window_any (J : Jb) (a : Option Addr) (n c : Nat) (w : World) (hn : n = J.sh.length) (hm : n ≤ 9223372036854775807) (h : Rg w w.heap.size a J.sh) :
    Calls Try.prog 6 #[.agg (jobC J (.slice a n c))] w (WindowEnd J w) := by
  have Hn : Hid (n = J.sh.length) := hn
  have Hh : Hid (Rg w w.heap.size a J.sh) := h
  clear hn h
  have b0 : Bk ((w.alloc (.cells (jobC J (.slice a n c)) 31)).alloc (.cells #[.int .i64 0, .int .i64 0] 24)) w.heap.size 31 (jobC J (.slice a n c)) := (Bk.new w _ _).alloc _
  have b1 : Bk ((w.alloc (.cells (jobC J (.slice a n c)) 31)).alloc (.cells #[.int .i64 0, .int .i64 0] 24)) (w.heap.size + 1) 24 #[.int .i64 0, .int .i64 0] := Bk.newAt _ _ _ _ (by simp)
  have hW : Below w.heap.size w ((w.alloc (.cells (jobC J (.slice a n c)) 31)).alloc (.cells #[.int .i64 0, .int .i64 0] 24)) := ((Below.refl _ _).alloc (Nat.le_refl _) _).alloc (by simp) _
  by_cases hc : J.check = 0
  · have hok := check_ok hc
    have HJ := hidMk (hok.inn.mono (by decide : (100 : Int) ≤ 1000))
    have hcb : (J.check != 0) = false := by simp [hc]
    have Hc := hidMk hc
    clear hc hok
    obtain ⟨v, hv⟩ : ∃ v : Bool, decide ((win J.wi J.sh).2 < (win J.wi J.sh).1) = v := ⟨_, rfl⟩
    have He : Hid (windowI J = if v = true then ((0, 0), 11) else (win J.wi J.sh, 0)) := by
      show windowI J = _
      unfold windowI
      rw [if_neg (by simpa using Hc.out), ← hv]
      simp only [decide_eq_true_eq]
    cases v
    · go_enter Try.func6, Try.ntmps6
      go_wp2_with (refine wpList_load_row rfl 31 _ rfl w.heap.size rfl _ (jobC J (.slice a n c)) _ _ b0 Try.underlying31 rfl szJob ?_)
      refine (check_any J a n c _ Hn.out hm (Hh.out.up hW)).mono ?_
      rintro e w1 ⟨rfl, hb1⟩
      have hz1 := hb1.size
      simp only [World.size_alloc] at hz1
      have k0 := b0.below hb1 (by simp; omega)
      have k1 := b1.below hb1 (by simp)
      have hB1 : Below w.heap.size w w1 := hW.trans (hb1.mono (by simp; omega))
      clear hb1 b0 b1 hW
      go_wp2_with (refine wpList_load_row rfl 31 _ rfl w.heap.size rfl _ (jobC J (.slice a n c)) _ _ k0 Try.underlying31 rfl szJob ?_)
      refine (windows_any J a n c _ HJ.out Hn.out (Hh.out.up hB1)).mono ?_
      rintro e w2 ⟨rfl, hb2⟩
      have hz2 := hb2.size
      have q1 := k1.below hb2 (by omega)
      have hB2 : Below w.heap.size w w2 := hB1.trans (hb2.mono (by omega))
      clear hb2 k0 k1 hB1
      have c0 := q1.at_ 0 _ rfl
      have c1 := q1.at_ 1 _ rfl
      have f0 := q1.free 0
      have f1 := q1.free 1
      have g0 : w.heap.size + 1 < w2.heap.size := by omega
      have g1 : w.heap.size + 1 < w2.heap.size + 1 := by omega
      have g2 : w.heap.size + 1 < w2.heap.size + 1 + 1 := by omega
      go_wp2_with (go_at_call 18; refine (empty_any _ _ _).mono ?_; rintro e w3 ⟨rfl, rfl⟩)
      refine bodyPost_ret (results_row_tmp Try.results6 _ _ _ _ _ _ rfl rfl (((((q1.put2 _ _).alloc _).alloc _).alloc _)) Try.underlying24 szRange) rfl ⟨by rw [He.out]; rfl, ?_⟩
      exact ((((hB2.setCell (by simp) _).setCell (by simp) _).alloc (by simp; omega) _).alloc (by simp; omega) _).alloc (by simp; omega) _
    · go_enter Try.func6, Try.ntmps6
      go_wp2_with (refine wpList_load_row rfl 31 _ rfl w.heap.size rfl _ (jobC J (.slice a n c)) _ _ b0 Try.underlying31 rfl szJob ?_)
      refine (check_any J a n c _ Hn.out hm (Hh.out.up hW)).mono ?_
      rintro e w1 ⟨rfl, hb1⟩
      have hz1 := hb1.size
      simp only [World.size_alloc] at hz1
      have k0 := b0.below hb1 (by simp; omega)
      have k1 := b1.below hb1 (by simp)
      have hB1 : Below w.heap.size w w1 := hW.trans (hb1.mono (by simp; omega))
      clear hb1 b0 b1 hW
      go_wp2_with (refine wpList_load_row rfl 31 _ rfl w.heap.size rfl _ (jobC J (.slice a n c)) _ _ k0 Try.underlying31 rfl szJob ?_)
      refine (windows_any J a n c _ HJ.out Hn.out (Hh.out.up hB1)).mono ?_
      rintro e w2 ⟨rfl, hb2⟩
      have hz2 := hb2.size
      have q1 := k1.below hb2 (by omega)
      have hB2 : Below w.heap.size w w2 := hB1.trans (hb2.mono (by omega))
      clear hb2 k0 k1 hB1
      have c0 := q1.at_ 0 _ rfl
      have c1 := q1.at_ 1 _ rfl
      have f0 := q1.free 0
      have f1 := q1.free 1
      have g0 : w.heap.size + 1 < w2.heap.size := by omega
      have g1 : w.heap.size + 1 < w2.heap.size + 1 := by omega
      have g2 : w.heap.size + 1 < w2.heap.size + 1 + 1 := by omega
      go_wp2_with (go_at_call 18; refine (empty_any _ _ _).mono ?_; rintro e w3 ⟨rfl, rfl⟩)
      refine bodyPost_ret (results_row_tmp Try.results6 _ _ _ _ _ _ rfl rfl (((((q1.put2 _ _).alloc _).alloc _).alloc _)) Try.underlying24 szRange) rfl ⟨by rw [He.out]; rfl, ?_⟩
      exact ((((hB2.setCell (by simp) _).setCell (by simp) _).alloc (by simp; omega) _).alloc (by simp; omega) _).alloc (by simp; omega) _
  · have hcb : (J.check != 0) = true := by simpa using hc
    have He : Hid (windowI J = ((0, 0), J.check)) := by
      show windowI J = _
      unfold windowI
      rw [if_pos hc]
    clear hc
    go_enter Try.func6, Try.ntmps6
    go_wp2_with (refine wpList_load_row rfl 31 _ rfl w.heap.size rfl _ (jobC J (.slice a n c)) _ _ b0 Try.underlying31 rfl szJob ?_)
    refine (check_any J a n c _ Hn.out hm (Hh.out.up hW)).mono ?_
    rintro e w1 ⟨rfl, hb1⟩
    have hz1 := hb1.size
    simp only [World.size_alloc] at hz1
    have k1 := b1.below hb1 (by simp)
    have hB1 : Below w.heap.size w w1 := hW.trans (hb1.mono (by simp; omega))
    clear hb1 b0 b1 hW
    have c0 := k1.at_ 0 _ rfl
    have c1 := k1.at_ 1 _ rfl
    have f0 := k1.free 0
    have f1 := k1.free 1
    go_wp2
    refine bodyPost_ret (results_row_tmp Try.results6 _ _ _ _ _ _ rfl rfl (k1.put2 _ _) Try.underlying24 szRange) rfl ⟨by rw [He.out]; rfl, ?_⟩
    exact (hB1.setCell (by simp) _).setCell (by simp) _
end Go.Proofs.Ytkimdnckbdeekaa
