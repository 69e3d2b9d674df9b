/- The contract of reed.windows. -/
import Derived.Test.YtkimdnckbdeekaaBase
import Derived.Deep.RegionHeld3
import Derived.Maps.AppendAt
import Derived.Deep.DeepMust
import Derived.Deep.AppendLies
namespace Go.Proofs.Ytkimdnckbdeekaa
open Go.RowKit

theorem infoRange : (Try.prog.info? 24).map (fun i => (i.zero, i.size, i.bytes)) = some (some (.agg #[.int .i64 0, .int .i64 0]), 2, 16) := by kernel_rfl

/-- Two slices do not share a row. -/
def Dis (u v : Value) : Prop := ∀ g, u.ownBlock = some g → v.ownBlock = some g → False

theorem news_of_bk {W : World} {g : Nat} {t : TypeId} {x y : Value} (h : Bk W g t #[x, y]) : ∀ j u, [x, y][j]? = some u → W.cell? ((⟨g, 0, none⟩ : Addr).add j) = some u := by
  intro j u hj
  have : (⟨g, 0, none⟩ : Addr).add j = ⟨g, j, none⟩ := by unfold Addr.add; split <;> simp_all
  rw [this]
  exact h.at_ j u (by simpa using hj)

theorem rgCells_snoc : ∀ (l : List R2) (r : R2), rgCells (l ++ [r]) = rgCells l ++ [.int .i64 r.1, .int .i64 r.2]
  | [], r => rfl
  | x :: l, r => by simp [rgCells, rgCells_snoc l r]

theorem two_newR (w : World) (C D : Array Value) (t u : TypeId) : Bk ((w.alloc (.cells C t)).alloc (.cells D u)) (w.heap.size + 1) u D := by
  have := Bk.new (w.alloc (.cells C t)) u D
  rwa [World.size_alloc] at this
theorem rgCells_snoc_map (l : List R2) (f : R2 → R2) (r : R2) : rgCells (l ++ List.map f [r]) = rgCells l ++ [.int .i64 (f r).1, .int .i64 (f r).2] := rgCells_snoc l (f r)
/-- What 'windows' hands back. -/
def WinEnd (J : Jb) (w : World) (e : Ending) (w' : World) : Prop :=
  e = .returned (.tuple #[.agg #[.int .i64 (win J.wi J.sh).1, .int .i64 (win J.wi J.sh).2], .agg #[.int .i64 (pos J.wi J.sh).1, .int .i64 (pos J.wi J.sh).2]]) ∧ Below w.heap.size w w'

theorem own_step {wr w2 : World} {B k : Nat} {t : TypeId} {v u : Value} {xs : List Value} (o p : Obj) (h : wr.ownsRow B t 2 u k xs) (hg : ((wr.alloc o).alloc p).grownBy w2 v.ownBlock) (hd : Dis v u) : w2.ownsRow B t 2 u k xs :=
  ((h.alloc o).alloc p).kept hg (by
    cases e : u.ownBlock with
    | none => exact .inl rfl
    | some g => exact .inr fun e' => hd g e'.symm e)
theorem dis_step {wr : World} {B k : Nat} {t : TypeId} {v u v' : Value} {xs : List Value} {n : Nat} (hu : wr.ownsRow B t 2 u k xs) (hd : Dis v u) (hn : wr.heap.size ≤ n) (hat : v'.ownBlock = v.ownBlock ∨ v'.ownBlock = some n) : Dis v' u := by
  intro g h1 h2
  rcases hat with e | e
  · exact hd g (e ▸ h1) h2
  · have := (hu.lt g h2).2
    rw [e] at h1
    simp at h1
    omega
theorem Dis.symm {u v : Value} (h : Dis u v) : Dis v u := fun g h1 h2 => h g h2 h1

theorem conds_len (sh : List R2) (h : sh.length ≤ 4) : 1 ≤ (conds sh).length ∧ (conds sh).length ≤ 4 := by
  unfold conds
  by_cases e : sh = []
  · rw [if_pos e]; simp
  · rw [if_neg e]
    have := List.length_pos_iff.2 e
    omega
theorem conds_in (sh : List R2) (h : ∀ s ∈ sh, -60 ≤ s.1 ∧ s.1 ≤ 60 ∧ -60 ≤ s.2 ∧ s.2 ≤ 60) : ∀ s ∈ conds sh, -60 ≤ s.1 ∧ s.1 ≤ 60 ∧ -60 ≤ s.2 ∧ s.2 ≤ 60 := by
  unfold conds
  by_cases e : sh = []
  · rw [if_pos e]; intro s hs; simp at hs; subst hs; decide
  · rw [if_neg e]; exact h

theorem results_two {P : Program} {fn : Func} {p q : Tmp} {ty : TypeId} {fs : Array Field} (h : fn.results = #[.cell p ty, .cell q ty]) (tmps : Array Value) (w : World) (g g' : Nat) (t t' : TypeId) (cs ds : Array Value)
    (hp : tmps.getD p undef = .pointer (some ⟨g, 0, none⟩)) (hq : tmps.getD q undef = .pointer (some ⟨g', 0, none⟩)) (hg : Bk w g t cs) (hg' : Bk w g' t' ds)
    (hu : P.underlying ty = some (.struct fs)) (hi : (P.info? ty).map (·.size) = some cs.size) (hsz : cs.size = ds.size := by rfl) :
    (results fn tmps).run P w = .ok (.tuple #[.agg cs, .agg ds]) w := by
  have hp' : tmps[p]?.getD undef = .pointer (some ⟨g, 0, none⟩) := by simpa using hp
  have hq' : tmps[q]?.getD undef = .pointer (some ⟨g', 0, none⟩) := by simpa using hq
  simp [results, h, hp', hq', asAddr, run_loadVar_row w g t ty cs (0, 0) _ hg hu rfl hi, run_loadVar_row w g' t' ty ds (0, 0) _ hg' hu rfl (hsz ▸ hi)]

theorem own_cap {w : World} {B e size g n cap : Nat} {xs : List Value} (h : w.ownsRow B e size (.slice (some ⟨g, 0, none⟩) n cap) n xs) : n ≤ cap := by
  rcases h.2 with ⟨e, _⟩ | ⟨g', cap', cur, hv, _, _, hnc, _⟩
  · cases e
  · cases hv; exact hnc
theorem rgCells_len : ∀ l : List R2, (rgCells l).length = l.length * 2
  | [] => rfl
  | x :: l => by simp [rgCells, rgCells_len l]; omega
theorem own_tail {w : World} {B e g n cap : Nat} {f : R2 → R2} {x : R2} {xs : List R2} (h : w.ownsRow B e 2 (.slice (some ⟨g, 0, none⟩) n cap) n (rgCells (List.map f (x :: xs)))) :
    Rg w w.heap.size (if cap = 1 then some ⟨g, 0, none⟩ else some ⟨g, 2, none⟩) (List.map f xs) := by
  have hl := h.1
  rw [rgCells_len] at hl
  simp only [List.length_map, List.length_cons] at hl
  have hn : n = xs.length + 1 := by omega
  have hc := own_cap h
  intro k r hr
  have hk : k < xs.length := by
    have := (List.getElem?_eq_some_iff.1 hr).1
    simpa using this
  rw [if_neg (by omega)]
  obtain ⟨g', cap', e1, _, hlt⟩ := h.form (by omega)
  cases e1
  have h2 := rgCells_at (List.map f (x :: xs)) (k + 1) r (by simpa using hr)
  rw [show (k + 1) * 2 = 2 + k * 2 from by omega] at h2
  exact ⟨g, 2, rfl, hlt, (h.cellAt (2 + k * 2) (by omega)).trans h2.1, (h.cellAt (2 + k * 2 + 1) (by omega)).trans h2.2⟩

set_option maxHeartbeats 1000000 in
set_option maxRecDepth 100000 in
theorem windows_any (J : Jb) (a : Option Addr) (n c : Nat) (w : World) (hJ : J.In 1000) (hn : n = J.sh.length) (h : Rg w w.heap.size a J.sh) :
    Calls Try.prog 17 #[.agg (jobC J (.slice a n c))] w (WinEnd J w) := by
  have hm : n ≤ 4 := by have := hJ.len; omega
  have HJ : Hid (J.In 1000) := hJ
  have Hn : Hid (n = J.sh.length) := hn
  clear hn
  have Hh : Hid (Rg w w.heap.size a J.sh) := h
  clear h
  have w1b := hJ.wi.1
  have w2b := hJ.wi.2
  obtain ⟨i0, hi, hz0, hz1, hz2⟩ := info_parts infoRange
  have Hi : Hid (Try.prog.info? 24 = some i0) := hi
  clear hi
  have Hz0 : Hid (i0.zero = some (.agg #[.int .i64 0, .int .i64 0])) := hz0
  have Hz1 : Hid (i0.size = 2) := hz1
  have Hz2 : Hid (i0.bytes = 16) := hz2
  clear hz0 hz1 hz2 hJ
  have b0 : Bk (((w.alloc (.cells (jobC J (.slice a n c)) 31)).alloc (.cells #[.int .i64 0, .int .i64 0] 24)).alloc (.cells #[.int .i64 0, .int .i64 0] 24)) w.heap.size 31 (jobC J (.slice a n c)) := ((Bk.new w _ _).alloc _).alloc _
  have b1 : Bk (((w.alloc (.cells (jobC J (.slice a n c)) 31)).alloc (.cells #[.int .i64 0, .int .i64 0] 24)).alloc (.cells #[.int .i64 0, .int .i64 0] 24)) (w.heap.size + 1) 24 #[.int .i64 0, .int .i64 0] := by
    have := Bk.new (w.alloc (.cells (jobC J (.slice a n c)) 31)) 24 #[.int .i64 0, .int .i64 0]
    rw [World.size_alloc] at this
    exact this.alloc _
  have b2 : Bk (((w.alloc (.cells (jobC J (.slice a n c)) 31)).alloc (.cells #[.int .i64 0, .int .i64 0] 24)).alloc (.cells #[.int .i64 0, .int .i64 0] 24)) (w.heap.size + 2) 24 #[.int .i64 0, .int .i64 0] := by
    have := Bk.new ((w.alloc (.cells (jobC J (.slice a n c)) 31)).alloc (.cells #[.int .i64 0, .int .i64 0] 24)) 24 #[.int .i64 0, .int .i64 0]
    simp only [World.size_alloc] at this
    exact this
  go_enter Try.func17, Try.ntmps17
  go_wp2_with (refine wpList_load_row rfl 31 _ rfl w.heap.size rfl _ (jobC J (.slice a n c)) _ _ b0 Try.underlying31 rfl szJob ?_)
  refine (conditions_any J a n c _ Hn.out hm (Hh.out.keep (by simp; omega) ?hk)).mono ?_
  case hk => intro p hp; rw [World.cell?_alloc_lt _ _ _ (by simp; omega), World.cell?_alloc_lt _ _ _ (by simp; omega), World.cell?_alloc_lt _ _ _ hp]
  rintro e w1 ⟨a', c', rfl, hrg, hb⟩
  have hB0 : Below w.heap.size w w1 := ((((Below.refl _ _).alloc (Nat.le_refl _) _).alloc (by simp) _).alloc (by simp; omega) _).trans (hb.mono (by simp; omega))
  have hz := hb.size
  simp only [World.size_alloc] at hz
  have k0 := b0.below hb (by simp; omega)
  have k1 := b1.below hb (by simp)
  have k2 := b2.below hb (by simp)
  clear b0 b1 b2 hb
  have HR : Hid (Rg w1 w1.heap.size a' (conds J.sh)) := hrg
  have HB0 : Hid (Below w.heap.size w w1) := hB0
  clear hrg hB0
  obtain ⟨hc1, hc2⟩ := conds_len J.sh HJ.out.len
  obtain ⟨m, Hm⟩ : ∃ m, Hid (m = (conds J.sh).length) := ⟨_, rfl⟩
  rw [← Hm.out] at hc1 hc2 ⊢
  go_wp2_with fail
  go_loopw [4, 5, 11] (fun v4 v5 i wr => ∃ k : Nat, k ≤ m ∧ i = .int .i64 k ∧ wr.ownsRow w1.heap.size 24 2 v4 k (rgCells (((conds J.sh).take k).map (sureOf J.wi))) ∧
      wr.ownsRow w1.heap.size 24 2 v5 k (rgCells (((conds J.sh).take k).map (possOf J.wi))) ∧ Dis v4 v5 ∧ Below w1.heap.size w1 wr) (fun _ _ i _ => m - (intOf i).toNat)
  case atStart =>
    exact ⟨0, Nat.zero_le _, rfl, World.ownsRow_nil _ _ _ _, World.ownsRow_nil _ _ _ _, (fun g h _ => by simp [Value.ownBlock] at h), Below.refl _ _⟩
  case round =>
    obtain ⟨k, hk, rfl, own4, own5, dis, hB⟩ := hrel
    have hs := hB.size
    have hl1 := k0.lt
    have q0 := k0.below hB (by omega)
    have c16 := q0.at_ 16 _ rfl
    have hl2 := q0.lt
    by_cases hlt : k < m
    · have hkl : k < (conds J.sh).length := by rw [← Hm.out]; exact hlt
      obtain ⟨b, off, rfl, hbl, e0, e1⟩ := HR.out k (conds J.sh)[k] (List.getElem?_eq_getElem hkl)
      replace e0 := (hB.cell (p := ⟨b, off + k * 2, none⟩) hbl).trans e0
      replace e1 := (hB.cell (p := ⟨b, off + k * 2 + 1, none⟩) hbl).trans e1
      have hbl' : b < wr.heap.size := by omega
      obtain ⟨s1, s2, s3, s4⟩ := conds_in J.sh HJ.out.sh _ (List.getElem_mem hkl)
      obtain ⟨s, Hs⟩ : ∃ s, Hid (s = (conds J.sh)[k]) := ⟨_, hidMk rfl⟩
      rw [← Hs.out] at s1 s2 s3 s4 e0 e1
      have Ho4 := hidMk own4
      have Ho5 := hidMk own5
      clear own4 own5
      go_wp2_with (first | (at_builtin; refine wpList_append_own_at _ rfl (.tmp 15) (.tmp 28) 29 rfl w1.heap.size 24 i0 (.agg #[.int .i64 0, .int .i64 0]) 2 16 Try.underlying29 Hi.out Hz0.out Hz1.out Hz2.out rfl (by decide) _ k _ rfl ((Ho4.out.alloc _).alloc _) ⟨wr.heap.size + 1, 0, none⟩ 1 1 [.int .i64 (-J.wi - s.1), .int .i64 (J.wi - s.2)] rfl rfl (news_of_bk (two_newR wr _ _ _ _)) (by simp [Value.oneCell']) (by unfold maxLen; omega) (by omega) (by simp; omega) ?_; intro v4' w2 own4' hg4 _ at4; have hB2 : Below w1.heap.size w1 w2 := ((hB.alloc (by omega) _).alloc (by simp; omega) _).grown hg4 (by simp; omega) (fun g e => (Ho4.out.lt g e).1); have bx : Bk w2 wr.heap.size 24 #[.int .i64 s.1, .int .i64 s.2] := ((Bk.new wr _ _).alloc _).grown hg4 (fun e => by have := (Ho4.out.lt _ e.symm).2; omega); have d16 := (k0.below hB2 (by omega)).at_ 16 _ rfl; have x0 := bx.at_ 0 _ rfl; have x1 := bx.at_ 1 _ rfl; have hs2 : wr.heap.size + 2 ≤ w2.heap.size := (by have := hg4.size; simp at this; omega); have o5 := hidMk (own_step _ _ Ho5.out hg4 dis); have O4 := hidMk own4'; clear own4') | (at_builtin; refine wpList_append_own_at _ rfl (.tmp 30) (.tmp 43) 29 rfl w1.heap.size 24 i0 (.agg #[.int .i64 0, .int .i64 0]) 2 16 Try.underlying29 Hi.out Hz0.out Hz1.out Hz2.out rfl (by decide) _ k _ rfl (o5.out.alloc _) ⟨w2.heap.size, 0, none⟩ 1 1 [.int .i64 (-J.wi - s.2), .int .i64 (J.wi - s.1)] rfl rfl (news_of_bk (Bk.new w2 _ _)) (by simp [Value.oneCell']) (by unfold maxLen; omega) (by omega) (by simp; omega) ?_; intro v5' w3 own5' hg5 _ at5; have hB3 : Below w1.heap.size w1 w3 := (hB2.alloc (by omega) _).grown hg5 (by simp; omega) (fun g e => (o5.out.lt g e).1); have O5 := hidMk own5'; clear own5'))
      go_roundw
      case rel =>
        have ds := dis_step Ho5.out dis (by simp; omega) at4
        have ds' : Dis v4' v5' := (dis_step (O4.out.alloc _) ds.symm (Nat.le_refl _) at5).symm
        refine ⟨k + 1, by omega, by go_num, ?_, ?_, ds', hB3⟩
        · rw [take_snoc _ k hkl, List.map_append, rgCells_snoc_map, ← Hs.out]
          exact (O4.out.alloc _).kept hg5 (by
            cases e : v4'.ownBlock with
            | none => exact .inl rfl
            | some g => exact .inr fun e' => ds g e e'.symm)
        · rw [take_snoc _ k hkl, List.map_append, rgCells_snoc_map, ← Hs.out]
          exact O5.out
      case measure => simp [intOf]; omega
    · obtain rfl : k = m := by omega
      have el : (conds J.sh).take k = conds J.sh := by rw [Hm.out]; exact List.take_length
      rw [el] at own4 own5
      obtain ⟨g4, cap4, rfl, hb4, hlt4⟩ := own4.form (by omega)
      obtain ⟨g5, cap5, rfl, hb5, hlt5⟩ := own5.form (by omega)
      have q1 := k1.below hB (by omega)
      have q2 := k2.below hB (by omega)
      clear el c16
      obtain ⟨x0, xs, hx⟩ : ∃ x xs, conds J.sh = x :: xs := by
        cases e : conds J.sh with
        | nil => rw [e] at Hm; have := Hm.out; simp at this; omega
        | cons x xs => exact ⟨x, xs, rfl⟩
      rw [hx] at own4 own5
      have hcap4 := own_cap own4
      have hcap5 := own_cap own5
      have c40 := (own4.cellAt 0 (by omega)).trans (show (rgCells (List.map (sureOf J.wi) (x0 :: xs)))[0]? = some (.int .i64 (sureOf J.wi x0).1) from rfl)
      have c41 := (own4.cellAt 1 (by omega)).trans (show (rgCells (List.map (sureOf J.wi) (x0 :: xs)))[1]? = some (.int .i64 (sureOf J.wi x0).2) from rfl)
      have c50 := (own5.cellAt 0 (by omega)).trans (show (rgCells (List.map (possOf J.wi) (x0 :: xs)))[0]? = some (.int .i64 (possOf J.wi x0).1) from rfl)
      have c51 := (own5.cellAt 1 (by omega)).trans (show (rgCells (List.map (possOf J.wi) (x0 :: xs)))[1]? = some (.int .i64 (possOf J.wi x0).2) from rfl)
      have T4 := hidMk (own_tail own4)
      have T5 := hidMk (own_tail own5)
      have Hx := hidMk hx
      have Q1 := hidMk q1
      have Q2 := hidMk q2
      have HB := hidMk hB
      clear hx own4 own5 q1 q2 hB dis k0 k1 k2 q0
      have hlen : Hid (xs.length + 1 = k) := by show xs.length + 1 = k; have := Hm.out; rw [Hx.out] at this; simpa using this.symm
      have i0 : 0 < k := by omega
      have i1 : (0 : Int) < ↑k := by omega
      have i2 : (1 : Int) ≤ ↑k := by omega
      have i3 : (↑k : Int) ≤ ↑cap4 := by omega
      have i4 : (↑k : Int) ≤ ↑cap5 := by omega
      have hC : Below wr.heap.size wr wr := Below.refl _ _
      obtain ⟨A4, hd4⟩ : ∃ A, (if cap4 = 1 then some (⟨g4, 0, none⟩ : Addr) else some ⟨g4, 2, none⟩) = A := ⟨_, rfl⟩
      obtain ⟨A5, hd5⟩ : ∃ A, (if cap5 = 1 then some (⟨g5, 0, none⟩ : Addr) else some ⟨g5, 2, none⟩) = A := ⟨_, rfl⟩
      have t4 := T4.out
      rw [hd4] at t4
      have t5 := T5.out
      rw [hd5] at t5
      have R4 := hidMk t4
      have R5 := hidMk t5
      clear t4 t5 T4 T5
      go_wp2_with fail
      go_region_held3 (fun w' => w'.cell? ⟨g4, 0, none⟩ = some (.int .i64 (sureOf J.wi x0).1) ∧ w'.cell? ⟨g4, 1, none⟩ = some (.int .i64 (sureOf J.wi x0).2) ∧ w'.cell? ⟨g5, 0, none⟩ = some (.int .i64 (possOf J.wi x0).1) ∧ w'.cell? ⟨g5, 1, none⟩ = some (.int .i64 (possOf J.wi x0).2)) (first | exact ⟨u0, u1, u2, u3⟩ | exact ⟨c40, c41, c50, c51⟩ | (simp (disch := omega) only [cell_other]; exact ⟨u0, u1, u2, u3⟩) | go_keep)
        (first | (go_at_call 35; refine (meet_any _ _ _ _ _ (List.map (sureOf J.wi) xs) _ ?_ ?_ ?_).mono ?_; (rw [List.length_map]; have := hlen.out; omega); omega; (first | exact R4.out.up hC | exact R4.out.up hC.drew); rintro e w2 ⟨rfl, hb⟩; have hC' : Below wr.heap.size wr w2 := (by first | exact chainB hC (Nat.le_refl _) hb | exact chainB hC.drew (Nat.le_refl _) hb); clear hC; have hC := hC'; clear hC'; have hz9 := hC.size; have hg4 : g4 < w2.heap.size := (by omega); have hg5 : g5 < w2.heap.size := (by omega); have u0 := (hC.cell (p := ⟨g4, 0, none⟩) hlt4).trans c40; have u1 := (hC.cell (p := ⟨g4, 1, none⟩) hlt4).trans c41; have u2 := (hC.cell (p := ⟨g5, 0, none⟩) hlt5).trans c50; have u3 := (hC.cell (p := ⟨g5, 1, none⟩) hlt5).trans c51; have p1 := Q1.out.below hC (by omega); have p2 := Q2.out.below hC (by omega); have r10 := p1.at_ 0 _ rfl; have r11 := p1.at_ 1 _ rfl; have r20 := p2.at_ 0 _ rfl; have r21 := p2.at_ 1 _ rfl; have s10 := p1.free 0; have s11 := p1.free 1; have s20 := p2.free 0; have s21 := p2.free 1; clear p1 p2) | (go_at_call 35; refine (meet_any _ _ _ _ _ (List.map (possOf J.wi) xs) _ ?_ ?_ ?_).mono ?_; (rw [List.length_map]; have := hlen.out; omega); omega; (first | exact R5.out.up hC | exact R5.out.up hC.drew); rintro e w2 ⟨rfl, hb⟩; have hC' : Below wr.heap.size wr w2 := (by first | exact chainB hC (Nat.le_refl _) hb | exact chainB hC.drew (Nat.le_refl _) hb); clear hC; have hC := hC'; clear hC'; have hz9 := hC.size; have hg4 : g4 < w2.heap.size := (by omega); have hg5 : g5 < w2.heap.size := (by omega); have u0 := (hC.cell (p := ⟨g4, 0, none⟩) hlt4).trans c40; have u1 := (hC.cell (p := ⟨g4, 1, none⟩) hlt4).trans c41; have u2 := (hC.cell (p := ⟨g5, 0, none⟩) hlt5).trans c50; have u3 := (hC.cell (p := ⟨g5, 1, none⟩) hlt5).trans c51; have p1 := Q1.out.below hC (by omega); have p2 := Q2.out.below hC (by omega); have r10 := p1.at_ 0 _ rfl; have r11 := p1.at_ 1 _ rfl; have r20 := p2.at_ 0 _ rfl; have r21 := p2.at_ 1 _ rfl; have s10 := p1.free 0; have s11 := p1.free 1; have s20 := p2.free 0; have s21 := p2.free 1; clear p1 p2))
      go_wp2
      have e4 : meetL ((sureOf J.wi x0).1, (sureOf J.wi x0).2) (List.map (sureOf J.wi) xs) = win J.wi J.sh := by unfold win; rw [Hx.out]; rfl
      have e5 : meetL ((possOf J.wi x0).1, (possOf J.wi x0).2) (List.map (possOf J.wi) xs) = pos J.wi J.sh := by unfold pos; rw [Hx.out]; rfl
      rw [e4, e5]
      have P1 := ((((Q1.out.below hC (by omega)).put2 (.int .i64 (win J.wi J.sh).1) (.int .i64 (win J.wi J.sh).2)).other (p := ⟨w.heap.size + 1 + 1, 0, none⟩) (by simp) (.int .i64 (pos J.wi J.sh).1)).other (p := ⟨w.heap.size + 1 + 1, 1, none⟩) (by simp) (.int .i64 (pos J.wi J.sh).2))
      have P2 := ((((Q2.out.below hC (by omega)).other (p := ⟨w.heap.size + 1, 0, none⟩) (by simp) (.int .i64 (win J.wi J.sh).1)).other (p := ⟨w.heap.size + 1, 1, none⟩) (by simp) (.int .i64 (win J.wi J.sh).2)).put2 (.int .i64 (pos J.wi J.sh).1) (.int .i64 (pos J.wi J.sh).2))
      refine bodyPost_ret (results_two Try.results17 _ _ _ _ _ _ _ _ rfl rfl P1 P2 Try.underlying24 szRange) rfl ⟨rfl, ?_⟩
      refine Below.setCell (Below.setCell (Below.setCell (Below.setCell ?_ (by simp) _) (by simp) _) (by simp; omega) _) (by simp; omega) _
      exact (HB0.out.trans (HB.out.mono (by omega))).trans (hC.mono (by omega))
end Go.Proofs.Ytkimdnckbdeekaa
