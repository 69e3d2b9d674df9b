/- Part 20 of the proof: KitC, KitD, KitE, FineL, AfterB, TrueB. -/
import Derived.Deep.WholeRow
import Derived.Test.YtggokdmlijipjaaT19
import Derived.Test.YtggokdmlijipjaaT10
import Derived.Test.YtggokdmlijipjaaT18
/- Contracts of StrokesOf and shifted. -/
namespace Go.Proofs.Ytggokdmlijipjaa
set_option linter.all false
open Go.RowKit

theorem PB.grown {b : Nat} {w w' : World} (h : PB b w.heap.size w w') : w.grownBy w' (some b) := ⟨h.os, h.tape, h.output, h.size, fun k hk hb => h.heap k hk (fun e => hb (by rw [e]))⟩
theorem PB.grownTo {b B : Nat} {w w' w'' : World} {row : Option Nat} (h : PB b B w w') (hg : w'.grownBy w'' row) (hB : B ≤ w'.heap.size) (hr : ∀ g, row = some g → B ≤ g) : PB b B w w'' :=
  ⟨hg.os.trans h.os, hg.tape.trans h.tape, hg.output.trans h.output, Nat.le_trans h.size hg.size, fun k hk hb => (hg.block k (Nat.lt_of_lt_of_le hk hB) (fun e => by have := hr k e.symm; omega)).trans (h.heap k hk hb)⟩
theorem own_pb {b base e size n : Nat} {w w' : World} {v : Value} {xs : List Value} (h : w.ownsRow base e size v n xs) (hb : b < base) (hk : PB b w.heap.size w w') : w'.ownsRow base e size v n xs :=
  h.kept hk.grown (by
    cases hv : v.ownBlock with
    | none => exact .inl rfl
    | some g => exact .inr fun e => by have := (h.lt g hv).1; cases e; omega)
theorem infoInt : (Try.prog.info? 3).map (fun i => (i.zero, i.size, i.bytes)) = some (some (.int .i64 0), 1, 8) := by kernel_rfl
theorem news_one {W : World} {g : Nat} {t : TypeId} {x : Value} (h : Bk W g t #[x]) : ∀ j u, [x][j]? = some u → W.cell? ((⟨g, 0, none⟩ : Addr).add j) = some u := by
  intro j u hj
  have : (⟨g, 0, none⟩ : Addr).add j = ⟨g, j, none⟩ := by unfold Addr.add; split <;> simp_all
  rw [this]
  exact h.at_ j u (by simpa using hj)
theorem Is.of_own {w : World} {B e n : Nat} {v : Value} {l : List Int} (h : w.ownsRow B e 1 v n (l.map (Value.int .i64))) : ∃ a c, v = .slice a n c ∧ n = l.length ∧ Is w w.heap.size a l := by
  have hl := h.1
  simp only [List.length_map] at hl
  rcases h.2 with ⟨rfl, rfl⟩ | ⟨g, cap, cur, rfl, hb, hg, hnc, hcm, hcs, htk⟩
  · have e : l = [] := List.length_eq_zero_iff.1 (by omega)
    subst e
    exact ⟨none, 0, rfl, rfl, Is.nil _ _ _⟩
  · refine ⟨some ⟨g, 0, none⟩, cap, rfl, by omega, fun k x hk => ⟨g, 0, rfl, (Array.getElem?_eq_some_iff.1 hg).1, ?_⟩⟩
    have hkl := (List.getElem?_eq_some_iff.1 hk).1
    rw [cell_of_row w g (0 + k) cur e (0, 0) hg, Nat.zero_add, ← Array.getElem?_toList]
    have h1 : (cur.toList.take (n * 1))[k]? = some (.int .i64 x) := by rw [htk]; simp [hk]
    rw [List.getElem?_take_of_lt (by omega)] at h1
    exact h1
set_option maxHeartbeats 2000000 in
set_option maxRecDepth 100000 in
theorem strokesOf_any (b : Nat) (w : World) (hp : Pt w b) :
    Calls Try.prog 6 #[.pointer (some ⟨b, 0, none⟩), .int .i64 6] w fun e w' => ∃ (a : Option Addr) (n c : Nat) (l : List Int), e = .returned (.slice a n c) ∧ n = l.length ∧ n ≤ 6 ∧ (∀ x ∈ l, x = 1 ∨ x = 2) ∧ Is w' w'.heap.size a l ∧ PB b w.heap.size w w' ∧ Pt w' b := by
  have hlt := hp.lt
  obtain ⟨i0, hi, hz0, hz1, hz2⟩ := info_parts infoInt
  have Hi : Hid (Try.prog.info? 3 = some i0) := hi
  have Hz0 : Hid (i0.zero = some (.int .i64 0)) := hz0
  have Hz1 : Hid (i0.size = 1) := hz1
  have Hz2 : Hid (i0.bytes = 8) := hz2
  clear hi hz0 hz1 hz2
  go_enter Try.func6, Try.ntmps6
  go_wp2_with fail
  refine (uptoP b 6 _ hp (by decide)).mono ?_
  rintro e w1 ⟨m, rfl, ⟨hm1, hm2⟩, hk1, hp1⟩
  go_wp2_with fail
  have hz1 := hk1.size
  have hlt1 := hp1.lt
  go_loopw [5, 6] (fun v i wr => ∃ (k : Nat) (j : Int) (l : List Int), (j + k = m ∧ 0 ≤ j) ∧ i = .int .i64 j ∧ l.length = k ∧ (∀ x ∈ l, x = 1 ∨ x = 2) ∧ wr.ownsRow w1.heap.size 3 1 v k (l.map (Value.int .i64)) ∧ PB b w.heap.size w wr ∧ Pt wr b ∧ w1.heap.size ≤ wr.heap.size) (fun _ i _ => (intOf i).toNat)
  case atStart => exact ⟨0, m, [], ⟨by omega, hm1⟩, rfl, rfl, by simp, World.ownsRow_nil _ _ _ _, hk1, hp1, Nat.le_refl _⟩
  case round =>
    obtain ⟨k, j, l, ⟨hj1, hj2⟩, rfl, hlk, hl12, own, hPB, hpr, hzr⟩ := hrel
    have hltr := hpr.lt
    by_cases hlt : 0 < j
    · have Ho := hidMk own
      have Hl := hidMk hl12
      have Hlk := hidMk hlk
      clear own hl12 hlk
      go_wp2_with (first
        | (go_at_call 22; refine (of2P b wr.heap.size 1 2 _ _ (hpr.alloc _) (by omega) (Bk.new _ _ _)).mono ?_; rintro e w2 ⟨x, rfl, hx, hk2, hp2⟩; have hz2 := hk2.size; simp only [World.size_alloc] at hz2; have O2 := hidMk (own_pb (Ho.out.alloc _) (by omega) hk2); have K2 := hidMk ((hPB.alloc (by omega) _).trans hk2 (by simp; omega)))
        | (at_builtin; refine wpList_append_own_at _ rfl (.tmp 14) (.tmp 18) 22 rfl w1.heap.size 3 i0 (.int .i64 0) 1 8 Try.underlying22 Hi.out Hz0.out Hz1.out Hz2.out rfl (by decide) _ k _ rfl (O2.out.alloc _) ⟨w2.heap.size, 0, none⟩ 1 1 [.int .i64 x] rfl rfl (news_one (Bk.new _ _ _)) (by simp [Value.oneCell']) (by unfold maxLen; omega) (by omega) (by simp; omega) ?_; intro v' w3 own' hg _ at_; have hz3 := hg.size; simp only [World.size_alloc] at hz3; have O3 := hidMk own'; clear own'; have hr : ∀ g, Value.ownBlock _ = some g → w1.heap.size ≤ g := (fun g e => (O2.out.lt g e).1)))
      go_roundw
      case rel =>
        refine ⟨k + 1, j - 1, l ++ [x], ⟨by omega, by omega⟩, by go_num, by rw [List.length_append]; simp [Hlk.out], ?_, ?_, ?_, ?_, ?_⟩
        · intro y hy
          rcases List.mem_append.1 hy with hy | hy
          · exact Hl.out y hy
          · rw [List.mem_singleton.1 hy]; exact hx
        · rw [List.map_append]
          exact O3.out
        · exact (K2.out.alloc (by omega) _).grownTo hg (by simp; omega) (fun g e => by have := hr g e; omega)
        · exact (hp2.alloc _).grown hg (fun e => by have := hr b e.symm; omega)
        · omega
      case measure => simp [intOf]; omega
    · obtain rfl : j = 0 := by omega
      obtain ⟨a, c, rfl, hn, his⟩ := Is.of_own own
      clear own
      go_wp2_with fail
      go_ret
      exact ⟨a, k, c, l, rfl, hn, by omega, hl12, his, hPB, hpr⟩
end Go.Proofs.Ytggokdmlijipjaa
/- The contract of shifted. -/
namespace Go.Proofs.Ytggokdmlijipjaa
set_option linter.all false
open Go.RowKit

/-- A slice at a reads as the list of ints l, in blocks from lo on. -/
def Isf (w : World) (lo B : Nat) (a : Option Addr) (l : List Int) : Prop :=
  ∀ k n, l[k]? = some n → ∃ b off, a = some ⟨b, off, none⟩ ∧ lo ≤ b ∧ b < B ∧ w.cell? ⟨b, off + k, none⟩ = some (.int .i64 n)
theorem Isf.is {w : World} {lo B : Nat} {a : Option Addr} {l : List Int} (h : Isf w lo B a l) : Is w B a l := fun k n hk => by
  obtain ⟨b, off, e, _, hB, hc⟩ := h k n hk
  exact ⟨b, off, e, hB, hc⟩
theorem Isf.lo {w : World} {lo lo' B : Nat} {a : Option Addr} {l : List Int} (h : Isf w lo B a l) (hl : lo' ≤ lo) : Isf w lo' B a l := fun k n hk => by
  obtain ⟨b, off, e, h1, hB, hc⟩ := h k n hk
  exact ⟨b, off, e, by omega, hB, hc⟩
theorem Isf.of_own {w : World} {B e n : Nat} {v : Value} {l : List Int} (h : w.ownsRow B e 1 v n (l.map (Value.int .i64))) : ∃ a c, v = .slice a n c ∧ n = l.length ∧ Isf w B w.heap.size a l := by
  have hl := h.1
  simp only [List.length_map] at hl
  rcases h.2 with ⟨rfl, rfl⟩ | ⟨g, cap, cur, rfl, hb, hg, hnc, hcm, hcs, htk⟩
  · have e : l = [] := List.length_eq_zero_iff.1 (by omega)
    subst e
    exact ⟨none, 0, rfl, rfl, fun k r h => by simp at h⟩
  · refine ⟨some ⟨g, 0, none⟩, cap, rfl, by omega, fun k x hk => ⟨g, 0, rfl, hb, (Array.getElem?_eq_some_iff.1 hg).1, ?_⟩⟩
    have hkl := (List.getElem?_eq_some_iff.1 hk).1
    rw [cell_of_row w g (0 + k) cur e (0, 0) hg, Nat.zero_add, ← Array.getElem?_toList]
    have h1 : (cur.toList.take (n * 1))[k]? = some (.int .i64 x) := by rw [htk]; simp [hk]
    rw [List.getElem?_take_of_lt (by omega)] at h1
    exact h1
set_option maxHeartbeats 2000000 in
set_option maxRecDepth 100000 in
theorem shifted_any (b : Nat) (J : Jb) (a : Option Addr) (n c : Nat) (w : World) (hp : Pt w b) (hJ : J.In 200) (hv : ∀ s ∈ J.sh, s.1 ≤ s.2) (hn : n = J.sh.length) (h : Rg w w.heap.size a J.sh) :
    Calls Try.prog 8 #[.pointer (some ⟨b, 0, none⟩), .agg (jobC J (.slice a n c))] w fun e w' => ∃ (a' : Option Addr) (n' c' : Nat) (l : List Int), e = .returned (.slice a' n' c') ∧ n' = l.length ∧ Ins l (conds J.sh) ∧ Isf w' w.heap.size w'.heap.size a' l ∧ PB b w.heap.size w w' ∧ Pt w' b := by
  have hm : n ≤ 4 := by have := hJ.len; omega
  have hlt := hp.lt
  obtain ⟨i0, hi, hz0, hz1, hz2⟩ := info_parts infoInt
  have Hi : Hid (Try.prog.info? 3 = some i0) := hi
  have Hz0 : Hid (i0.zero = some (.int .i64 0)) := hz0
  have Hz1 : Hid (i0.size = 1) := hz1
  have Hz2 : Hid (i0.bytes = 8) := hz2
  clear hi hz0 hz1 hz2
  have HJ := hidMk hJ
  have Hn := hidMk hn
  have Hh := hidMk h
  have Hv := hidMk hv
  clear hJ hn h hv
  have b0 : Bk (w.alloc (.cells (jobC J (.slice a n c)) 33)) w.heap.size 33 (jobC J (.slice a n c)) := Bk.new w _ _
  have p0 := hp.alloc (.cells (jobC J (.slice a n c)) 33)
  have k0 : PB b w.heap.size w (w.alloc (.cells (jobC J (.slice a n c)) 33)) := (PB.refl _ _ _).alloc (Nat.le_refl _) _
  go_enter Try.func8, Try.ntmps8
  go_wp2_with fail
  go_loopw [5, 6] (fun v i wr => ∃ (k : Nat) (l : List Int), k ≤ n ∧ i = .int .i64 k ∧ Ins l (J.sh.take k) ∧ wr.ownsRow (w.heap.size + 1) 3 1 v k (l.map (Value.int .i64)) ∧ Bk wr w.heap.size 33 (jobC J (.slice a n c)) ∧ PB b w.heap.size w wr ∧ Pt wr b ∧ w.heap.size + 1 ≤ wr.heap.size) (fun _ i _ => n - (intOf i).toNat)
  case atStart => exact ⟨0, [], Nat.zero_le _, rfl, trivial, World.ownsRow_nil _ _ _ _, b0, k0, p0, by simp⟩
  case round =>
    obtain ⟨k, l, hk, rfl, hin, own, hj, hPB, hpr, hzr⟩ := hrel
    have hltr := hpr.lt
    have d15 := hj.at_ 15 _ rfl
    by_cases hlt : k < n
    · have hkl : k < J.sh.length := by rw [← Hn.out]; exact hlt
      have hrg := Hh.out.pb hp hPB
      obtain ⟨g, off, rfl, hbl, e0, e1⟩ := hrg k J.sh[k] (List.getElem?_eq_getElem hkl)
      clear hrg
      obtain ⟨s1, s2, s3, s4⟩ := HJ.out.sh _ (List.getElem_mem hkl)
      have s5 := Hv.out _ (List.getElem_mem hkl)
      have htk := hidMk (take_snoc J.sh k hkl)
      obtain ⟨s, Hs⟩ : ∃ s, Hid (s = J.sh[k]) := ⟨_, hidMk rfl⟩
      rw [← Hs.out] at e0 e1 s1 s2 s3 s4 s5
      have Ho := hidMk own
      have Hin := hidMk hin
      clear own hin
      have hne : w.heap.size ≠ b := by omega
      go_wp2_with (first
        | (go_at_call 25; refine (innerP b s.1 s.2 _ hpr (by omega)).mono ?_; rintro e w2 ⟨x, rfl, hx, hk2, hp2⟩; have hz2 := hk2.size; have O2 := hidMk (own_pb Ho.out (by omega) hk2); have K2 := hidMk (hPB.trans hk2 (by omega)); have J2 := hidMk (hj.pb hk2 (by omega) hne))
        | (at_builtin; refine wpList_append_own_at _ rfl (.tmp 14) (.tmp 22) 22 rfl (w.heap.size + 1) 3 i0 (.int .i64 0) 1 8 Try.underlying22 Hi.out Hz0.out Hz1.out Hz2.out rfl (by decide) _ k _ rfl (O2.out.alloc _) ⟨w2.heap.size, 0, none⟩ 1 1 [.int .i64 x] rfl rfl (news_one (Bk.new _ _ _)) (by simp [Value.oneCell']) (by unfold maxLen; omega) (by omega) (by simp; omega) ?_; intro v' w3 own' hg _ at_; have hz3 := hg.size; simp only [World.size_alloc] at hz3; have O3 := hidMk own'; clear own'; have hr : ∀ g, Value.ownBlock _ = some g → w.heap.size + 1 ≤ g := (fun g e => (O2.out.lt g e).1)))
      go_roundw
      case rel =>
        refine ⟨k + 1, l ++ [x], by omega, by go_num, ?_, ?_, ?_, ?_, ?_, ?_⟩
        · rw [htk.out, ← Hs.out]; exact Hin.out.snoc hx
        · rw [List.map_append]
          exact O3.out
        · exact (J2.out.alloc _).grown hg (fun e => by have := hr _ e.symm; omega)
        · exact (K2.out.alloc (by omega) _).grownTo hg (by simp; omega) (fun g e => by have := hr g e; omega)
        · exact (hp2.alloc _).grown hg (fun e => by have := hr b e.symm; omega)
        · omega
      case measure => simp [intOf]; omega
    · obtain rfl : k = n := by omega
      have hall : J.sh.take k = J.sh := by rw [Hn.out]; exact List.take_length
      rw [hall] at hin
      obtain ⟨a', c', rfl, hn', his0⟩ := Isf.of_own own
      have his := his0.lo (lo' := w.heap.size) (by omega)
      clear his0
      have Hn' := hidMk hn'
      clear own hn'
      by_cases h0 : k = 0
      · have hsh : J.sh = [] := List.length_eq_zero_iff.1 (by rw [← Hn.out]; exact h0)
        subst h0
        go_wp2_with fail
        go_ret
        refine ⟨_, 1, 1, [0], rfl, rfl, ?_, ?_, hPB.alloc (by omega) _, hpr.alloc _⟩
        · unfold conds
          rw [if_pos hsh]
          exact ⟨by decide, trivial⟩
        · intro k n hk
          obtain ⟨b, off, e, hB, hc⟩ := Is.of_bk (B := wr.heap.size + 1) [0] (Bk.new wr 3 #[.int .i64 0]) (by omega) k n hk
          cases e
          exact ⟨_, _, rfl, by omega, by simp, hc⟩
      · have hsh : ¬ J.sh = [] := fun e => h0 (by rw [Hn.out, e]; rfl)
        go_wp2_with fail
        go_ret
        refine ⟨a', k, c', l, rfl, Hn'.out, ?_, his, hPB, hpr⟩
        unfold conds
        rw [if_neg hsh]
        exact hin
end Go.Proofs.Ytggokdmlijipjaa
/- Drawn regions gone through by hand; what is changed besides a pot and one variable. -/
namespace Go.Proofs.Ytggokdmlijipjaa
set_option linter.all false
open Go.RowKit

theorem region_via {P : Program} {id : Nat} {ops : Array Oper} {b : Bool} {Q : Exit → Act → World → Prop} {a : Act} {w : World} (R : Act → Exit → Act → World → Prop) (h : (Code.region id ops b).wp P (R a) a w) (hR : ∀ e a' w', R a e a' w' → Q e a' w') : (Code.region id ops b).wp P Q a w :=
  Code.wp_mono hR h
theorem yields_row {P : Program} {ops : Array Oper} {S : World → Prop} {op : Oper} {a : Act} (hw : Region.wanted op (yielded ops a.tmps) = true) (ty : TypeId) (x : Operand) (ho : op.op = .load ty x)
    (g : Nat) (cs : Array Value) (hx : a.eval x = .pointer (some ⟨g, 0, none⟩)) (t : TypeId) (hS : ∀ w, S w → Bk w g t cs) {fs : Array Field} (hu : P.underlying ty = some (.struct fs)) (hi : (P.info? ty).map (·.size) = some cs.size) : YieldsIf P ops S op (.agg cs) a :=
  .inl ⟨hw, fun w hw' => by
    have hg := hS w hw'
    unfold execOp
    simp only [ho, hx, Instr.loadAt, Instr.sureAddr, Sem.run_bind, Sem.run_pure, Result.andThen_ok, run_loadVar_row w g _ ty cs _ _ hg hu rfl hi]⟩
/-- The same list of ints, in blocks other than g. -/
def Isg (w : World) (g : Nat) (a : Option Addr) (l : List Int) : Prop :=
  ∀ k n, l[k]? = some n → ∃ b off, a = some ⟨b, off, none⟩ ∧ b ≠ g ∧ b < w.heap.size ∧ w.cell? ⟨b, off + k, none⟩ = some (.int .i64 n)
theorem Isg.is {w : World} {g : Nat} {a : Option Addr} {l : List Int} (h : Isg w g a l) : Is w w.heap.size a l := fun k n hk => by
  obtain ⟨b, off, e, _, hB, hc⟩ := h k n hk
  exact ⟨b, off, e, hB, hc⟩
theorem Isf.isg {w : World} {lo g : Nat} {a : Option Addr} {l : List Int} (h : Isf w lo w.heap.size a l) (hg : g < lo) : Isg w g a l := fun k n hk => by
  obtain ⟨b, off, e, h1, hB, hc⟩ := h k n hk
  exact ⟨b, off, e, by omega, hB, hc⟩
theorem Isf.isg' {w : World} {lo g : Nat} {a : Option Addr} {l : List Int} (h : Isf w lo w.heap.size a l) (hg : w.heap.size ≤ g) : Isg w g a l := fun k n hk => by
  obtain ⟨b, off, e, h1, hB, hc⟩ := h k n hk
  exact ⟨b, off, e, by omega, hB, hc⟩
theorem Isg.alloc {w : World} {g : Nat} {a : Option Addr} {l : List Int} (h : Isg w g a l) (o : Obj) : Isg (w.alloc o) g a l := fun k n hk => by
  obtain ⟨b, off, e, h1, hB, hc⟩ := h k n hk
  exact ⟨b, off, e, h1, by simp; omega, (World.cell?_alloc_lt _ _ _ hB).trans hc⟩
theorem Isg.setG {w : World} {g : Nat} {a : Option Addr} {l : List Int} (h : Isg w g a l) {p : Addr} (hp : p.block = g) (u : Value) : Isg (w.setCell p u) g a l := fun k n hk => by
  obtain ⟨b, off, e, h1, hB, hc⟩ := h k n hk
  exact ⟨b, off, e, h1, by simpa using hB, (World.cell?_of_block (a := ⟨b, off + k, none⟩) (Below.heap_setCell w p u b (by omega))).trans hc⟩
/-- Of what lay under B, the pot and block g alone may have been changed. -/
structure PG (b g B : Nat) (w w' : World) : Prop where
  size : w.heap.size ≤ w'.heap.size
  heap : ∀ k, k < B → k ≠ b → k ≠ g → w'.heap[k]? = w.heap[k]?
section
variable {b g B B' : Nat} {w w' w'' : World}
theorem PG.refl (b g B : Nat) (w : World) : PG b g B w w := ⟨Nat.le_refl _, fun _ _ _ _ => rfl⟩
theorem PG.pb (h : PG b g B w w') (h' : PB b B' w' w'') (hB : B ≤ B') : PG b g B w w'' := ⟨Nat.le_trans h.size h'.size, fun k hk h1 h2 => (h'.heap k (Nat.lt_of_lt_of_le hk hB) h1).trans (h.heap k hk h1 h2)⟩
theorem PG.below (h : PG b g B w w') (h' : Below B' w' w'') (hB : B ≤ B') : PG b g B w w'' := h.pb (PB.of h') hB
theorem PG.setG (h : PG b g B w w') {p : Addr} (hp : p.block = g) (u : Value) : PG b g B w (w'.setCell p u) := ⟨by simpa using h.size, fun k hk h1 h2 => (Below.heap_setCell w' p u k (by omega)).trans (h.heap k hk h1 h2)⟩
theorem PG.setCell (h : PG b g B w w') {p : Addr} (hp : B ≤ p.block) (u : Value) : PG b g B w (w'.setCell p u) := h.below ((Below.refl _ _).setCell hp u) (Nat.le_refl _)
theorem PG.alloc (h : PG b g B w w') (hB : B ≤ w'.heap.size) (o : Obj) : PG b g B w (w'.alloc o) := h.below ((Below.refl _ _).alloc hB o) (Nat.le_refl _)
theorem Isg.pg {a : Option Addr} {l : List Int} (h : Isg w g a l) (hp : Pt w b) (hk : PG b g w.heap.size w w') : Isg w' g a l := fun k n hn => by
  obtain ⟨q, off, e, h1, hB, hc⟩ := h k n hn
  have hne : q ≠ b := by
    rintro rfl
    obtain ⟨s, e⟩ := hp.cell hc
    cases e
  have := hk.size
  exact ⟨q, off, e, h1, by omega, (World.cell?_of_block (a := ⟨q, off + k, none⟩) (hk.heap q hB hne h1)).trans hc⟩
end
end Go.Proofs.Ytggokdmlijipjaa
/- The contract of reed.Fine on valid jobs and strokes, from that of work.fine. -/
namespace Go.Proofs.Ytggokdmlijipjaa
set_option linter.all false
open Go.RowKit
/-- What work.fine is held to. -/
def FineOK : Prop := ∀ (J : Jb) (a : Option Addr) (n c : Nat) (w : World), J.In 1000 → n = J.sh.length → Rg w w.heap.size a J.sh → Calls Try.prog 32 #[.agg (jobC J (.slice a n c))] w fun e w' => e = .returned (.int .i64 (fineI J J.tg)) ∧ Below w.heap.size w w'
set_option maxHeartbeats 1000000 in
set_option maxRecDepth 100000 in
theorem fineL_ok (hfine : FineOK) (J : Jb) (l : List Int) (hc : filedE J l = 0) (a : Option Addr) (n c : Nat) (b : Option Addr) (m d : Nat) (w : World) (hn : n = J.sh.length) (hm : n ≤ 9223372036854775807) (h : Rg w w.heap.size a J.sh)
    (hmn : m = l.length) (hmm : m ≤ 9223372036854775807) (hl : Is w w.heap.size b l) :
    Calls Try.prog 20 #[.agg (jobC J (.slice a n c)), .slice b m d] w fun e w' => e = .returned (.tuple #[.int .i64 (fineI (J.setTg (afterS J J.tg l)) (afterS J J.tg l)), .int .i64 0]) ∧ Below w.heap.size w w' := by
  have Hn : Hid (n = J.sh.length) := hn
  have Hh : Hid (Rg w w.heap.size a J.sh) := h
  have Hm : Hid (m = l.length) := hmn
  have Hl : Hid (Is w w.heap.size b l) := hl
  have HJ := hidMk (filed_in hc)
  have Hf := hidMk hc
  have Hfine := hidMk hfine
  clear hn h hc hmn hl hfine
  have b0 : Bk (w.alloc (.cells (jobC J (.slice a n c)) 33)) w.heap.size 33 (jobC J (.slice a n c)) := Bk.new w _ _
  have hW : Below w.heap.size w (w.alloc (.cells (jobC J (.slice a n c)) 33)) := (Below.refl _ _).alloc (Nat.le_refl _) _
  go_enter Try.func20, Try.ntmps20
  go_wp2_with (refine wpList_load_row rfl 33 _ rfl w.heap.size rfl _ (jobC J (.slice a n c)) _ _ b0 Try.underlying33 rfl szJob ?_)
  refine (filed_any J a n c b m d l _ Hn.out hm (Hh.out.up hW) Hm.out hmm (Hl.out.up hW)).mono ?_
  rintro e w1 ⟨he, hb1⟩
  rw [if_pos Hf.out] at he
  subst he
  have hz1 := hb1.size
  simp only [World.size_alloc] at hz1
  have hB1 : Below w.heap.size w w1 := hW.trans (hb1.mono (by simp))
  clear hb1 b0 hW
  obtain ⟨T, hT⟩ : ∃ T, afterS J J.tg l = T := ⟨_, rfl⟩
  have HJ' : Hid ((J.setTg T).In 200) := by have := HJ.out; rw [hT] at this; exact this
  have HT := hidMk hT
  rw [hT]
  clear HJ hT
  go_wp2_with (first | (refine wpList_store_row rfl 68 _ _ rfl w1.heap.size (jobC (J.setTg T) (.slice a n c)) rfl rfl _ _ (Bk.new _ _ _) szWork rfl (oneJob _ _ _ _) ?_; rw [World.setRow_alloc_new]) | (refine wpList_load_row rfl 68 _ rfl w1.heap.size rfl _ (jobC (J.setTg T) (.slice a n c)) _ _ (Bk.new _ _ _) Try.underlying68 rfl szWork ?_))
  refine (Hfine.out (J.setTg T) a n c _ (HJ'.out.mono (by decide)) Hn.out (Hh.out.up (hB1.alloc (by omega) _))).mono ?_
  rintro e w2 ⟨rfl, hb2⟩
  have hB2 : Below w.heap.size w w2 := (hB1.alloc (by omega) _).trans (hb2.mono (by simp; omega))
  go_wp2
  refine bodyPost_ret (v := .tuple #[.int .i64 (fineI (J.setTg T) T), .int .i64 0]) (by simp [results, Try.results20, go_sem]; rfl) rfl ⟨by rw [HT.out], hB2⟩
end Go.Proofs.Ytggokdmlijipjaa
/- The contract of reed.After. -/
namespace Go.Proofs.Ytggokdmlijipjaa
set_option linter.all false
open Go.RowKit

set_option maxHeartbeats 1000000 in
set_option maxRecDepth 100000 in
theorem afterF_any (J : Jb) (a : Option Addr) (n c : Nat) (b : Option Addr) (m d : Nat) (l : List Int) (w : World) (hn : n = J.sh.length) (hm : n ≤ 9223372036854775807) (h : Rg w w.heap.size a J.sh)
    (hmn : m = l.length) (hmm : m ≤ 9223372036854775807) (hl : Is w w.heap.size b l) :
    Calls Try.prog 17 #[.agg (jobC J (.slice a n c)), .slice b m d] w (AfterAns J l w) := by
  have Hn : Hid (n = J.sh.length) := hn
  have Hh : Hid (Rg w w.heap.size a J.sh) := h
  have Hm : Hid (m = l.length) := hmn
  have Hl : Hid (Is w w.heap.size b l) := hl
  clear hn h hmn hl
  have b0 : Bk ((w.alloc (.cells (jobC J (.slice a n c)) 33)).alloc (.cells #[.int .i64 0, .int .i64 0, .int .i64 0, .int .i64 0, .int .i64 0, .int .i64 0] 28)) w.heap.size 33 (jobC J (.slice a n c)) := (Bk.new w _ _).alloc _
  have b1 : Bk ((w.alloc (.cells (jobC J (.slice a n c)) 33)).alloc (.cells #[.int .i64 0, .int .i64 0, .int .i64 0, .int .i64 0, .int .i64 0, .int .i64 0] 28)) (w.heap.size + 1) 28 #[.int .i64 0, .int .i64 0, .int .i64 0, .int .i64 0, .int .i64 0, .int .i64 0] := Bk.newAt _ _ _ _ (by simp)
  have hW : Below w.heap.size w ((w.alloc (.cells (jobC J (.slice a n c)) 33)).alloc (.cells #[.int .i64 0, .int .i64 0, .int .i64 0, .int .i64 0, .int .i64 0, .int .i64 0] 28)) := ((Below.refl _ _).alloc (Nat.le_refl _) _).alloc (by simp) _
  by_cases hc : filedE J l = 0
  · have Hc := hidMk hc
    clear hc
    go_enter Try.func17, Try.ntmps17
    go_wp2_with (refine wpList_load_row rfl 33 _ rfl w.heap.size rfl _ (jobC J (.slice a n c)) _ _ b0 Try.underlying33 rfl szJob ?_)
    refine (filed_any J a n c b m d l _ Hn.out hm (Hh.out.up hW) Hm.out hmm (Hl.out.up hW)).mono ?_
    rintro e w1 ⟨he, hb1⟩
    rw [if_pos Hc.out] at he
    subst he
    have hz1 := hb1.size
    simp only [World.size_alloc] at hz1
    have k1 := b1.below hb1 (by simp)
    have hB1 : Below w.heap.size w w1 := hW.trans (hb1.mono (by simp; omega))
    clear hb1 b0 b1 hW
    obtain ⟨T, hT⟩ : ∃ T, afterS J J.tg l = T := ⟨_, rfl⟩
    have HT := hidMk hT
    rw [hT]
    clear hT
    have q1 := k1.alloc (.cells (jobC (J.setTg T) (.slice a n c)) 68)
    go_wp2_with (first | (refine wpList_store_row rfl 68 _ _ rfl w1.heap.size (jobC (J.setTg T) (.slice a n c)) rfl rfl _ _ (Bk.new _ _ _) szWork rfl (oneJob _ _ _ _) ?_; rw [World.setRow_alloc_new]) | refine wpList_store_row rfl 28 _ _ rfl (w.heap.size + 1) (tonC T) rfl rfl _ _ q1 szTongue rfl (oneTon _) ?_)
    refine bodyPost_ret (results_row_tmp Try.results17 _ _ _ _ _ _ rfl rfl (q1.row _) Try.underlying28 szTongue) rfl ⟨?_, below_setRow (hB1.alloc (by omega) _) (by simp) _⟩
    rw [if_pos Hc.out, HT.out]
    rfl
  · have Hc := hidMk hc
    clear hc
    go_enter Try.func17, Try.ntmps17
    go_wp2_with (refine wpList_load_row rfl 33 _ rfl w.heap.size rfl _ (jobC J (.slice a n c)) _ _ b0 Try.underlying33 rfl szJob ?_)
    refine (filed_any J a n c b m d l _ Hn.out hm (Hh.out.up hW) Hm.out hmm (Hl.out.up hW)).mono ?_
    rintro e w1 ⟨he, hb1⟩
    rw [if_neg Hc.out] at he
    subst he
    have hz1 := hb1.size
    simp only [World.size_alloc] at hz1
    have k1 := b1.below hb1 (by simp)
    have hB1 : Below w.heap.size w w1 := hW.trans (hb1.mono (by simp; omega))
    clear hb1 b0 b1 hW
    have q1 := k1.alloc (.cells (jobC zeroJ (.slice none 0 0)) 68)
    go_wp2_with (first | (refine wpList_store_row rfl 68 _ _ rfl w1.heap.size (jobC zeroJ (.slice none 0 0)) rfl rfl _ _ (Bk.new _ _ _) szWork rfl (oneJob _ _ _ _) ?_; rw [World.setRow_alloc_new]) | refine wpList_store_row rfl 28 _ _ rfl (w.heap.size + 1) (tonC zeroJ.tg) rfl rfl _ _ q1 szTongue rfl (oneTon _) ?_)
    refine bodyPost_ret (results_row_tmp Try.results17 _ _ _ _ _ _ rfl rfl (q1.row _) Try.underlying28 szTongue) rfl ⟨?_, below_setRow (hB1.alloc (by omega) _) (by simp) _⟩
    rw [if_neg Hc.out]
    rfl
end Go.Proofs.Ytggokdmlijipjaa
/- The code of the law ReedTrue in parts; what is known between them. -/
namespace Go.Proofs.Ytggokdmlijipjaa
set_option linter.all false
open Go.RowKit

noncomputable def bodyT : Code := Try.f3.body.getD .skip
noncomputable def sndC : Code → Code
  | .seq _ c => c
  | c => c
noncomputable def rest1 : Code := sndC bodyT
noncomputable def rest2 : Code := sndC rest1
noncomputable def rest3 : Code := sndC rest2
noncomputable def rest4 : Code := sndC rest3
noncomputable def rest5 : Code := sndC rest4
noncomputable def rest6 : Code := sndC rest5
noncomputable def rest7 : Code := sndC rest6
noncomputable def rest9 : Code := sndC rest7
noncomputable def rest13 : Code := sndC rest9
noncomputable def rest14 : Code := sndC rest13
noncomputable def rest15 : Code := sndC rest14
noncomputable def rest16 : Code := sndC rest15
noncomputable def rest17 : Code := sndC rest16
noncomputable def rest18 : Code := sndC rest17
set_option maxRecDepth 1000000
theorem body_eq : bodyT = .seq (Code.region 0 #[⟨some 2, .assign (.const (.bool false)), 4, "outright.go:121", #[], none⟩] false) (.seq (Code.region 1 #[⟨some 21, .move (.tmp 0), 22, "outright.go:122", #[], none⟩, ⟨some 22, .call { callee := .value (.func 4), args := #[.tmp 21], argTypes := #[22] }, 23, "outright.go:122", #[⟨0, .data⟩], none⟩, ⟨some 3, .assign (.tmp 22), 23, "outright.go:122", #[⟨1, .data⟩, ⟨1, .chain⟩, ⟨0, .phase⟩, ⟨1, .phase⟩], none⟩] false) (.seq (Code.region 2 #[⟨some 23, .move (.tmp 3), 23, "outright.go:123", #[], none⟩, ⟨some 24, .call { callee := .value (.func 5), args := #[.tmp 23, .const (.int .i64 9), .const (.int .i64 4)], argTypes := #[23, 3, 3] }, 33, "outright.go:123", #[⟨0, .data⟩], none⟩, ⟨some 4, .alloc 33, 0, "outright.go:123", #[], none⟩, ⟨none, .store 33 (.tmp 4) (.tmp 24), 0, "outright.go:123", #[⟨2, .data⟩, ⟨1, .data⟩, ⟨1, .chain⟩, ⟨0, .phase⟩, ⟨1, .phase⟩, ⟨2, .phase⟩], none⟩] false) (.seq (Code.region 3 #[⟨some 25, .move (.tmp 3), 23, "outright.go:124", #[], none⟩, ⟨some 26, .call { callee := .value (.func 6), args := #[.tmp 25, .const (.int .i64 6)], argTypes := #[23, 3] }, 22, "outright.go:124", #[⟨0, .data⟩], none⟩, ⟨some 5, .assign (.tmp 26), 22, "outright.go:124", #[⟨1, .data⟩, ⟨1, .chain⟩, ⟨0, .phase⟩, ⟨1, .phase⟩], none⟩] false) rest4))) := by kernel_rfl
theorem rest4_eq : rest4 = .seq (Code.region 4 #[⟨some 27, .move (.tmp 3), 23, "outright.go:125", #[], none⟩, ⟨some 28, .load 33 (.tmp 4), 33, "outright.go:125", #[], none⟩, ⟨some 29, .call { callee := .value (.func 7), args := #[.tmp 27, .tmp 28], argTypes := #[23, 33] }, 37, "outright.go:125", #[⟨0, .data⟩, ⟨1, .data⟩], none⟩, ⟨some 30, .move (.tmp 3), 23, "outright.go:125", #[], none⟩, ⟨some 31, .load 33 (.tmp 4), 33, "outright.go:125", #[], none⟩, ⟨some 32, .call { callee := .value (.func 8), args := #[.tmp 30, .tmp 31], argTypes := #[23, 33] }, 22, "outright.go:125", #[⟨3, .data⟩, ⟨4, .data⟩, ⟨2, .chain⟩], none⟩, ⟨some 6, .alloc 37, 0, "outright.go:125", #[], none⟩, ⟨none, .store 37 (.tmp 6) (.tmp 29), 0, "outright.go:125", #[⟨6, .data⟩, ⟨2, .data⟩, ⟨5, .chain⟩, ⟨0, .phase⟩, ⟨1, .phase⟩, ⟨2, .phase⟩, ⟨3, .textOnly .lateStores⟩, ⟨4, .textOnly .lateStores⟩, ⟨5, .textOnly .lateStoresUnsure⟩, ⟨6, .phase⟩], none⟩, ⟨some 7, .assign (.tmp 32), 22, "outright.go:125", #[⟨5, .data⟩, ⟨7, .chain⟩, ⟨0, .phase⟩, ⟨1, .phase⟩, ⟨2, .phase⟩, ⟨3, .phase⟩, ⟨4, .phase⟩, ⟨5, .phase⟩, ⟨6, .phase⟩, ⟨7, .phase⟩], none⟩] true) rest5 := by kernel_rfl
theorem rest5_eq : rest5 = .seq (Code.region 5 #[⟨some 34, .load 33 (.tmp 4), 33, "outright.go:126", #[], none⟩, ⟨some 35, .call { callee := .value (.func 9), args := #[.tmp 34], argTypes := #[33] }, 41, "outright.go:126", #[⟨0, .data⟩], none⟩, ⟨some 33, .move (.tmp 35), 41, "outright.go:126", #[⟨1, .data⟩], none⟩, ⟨some 36, .extract (.tmp 33) 0, 3, "outright.go:126", #[⟨2, .data⟩], none⟩, ⟨some 37, .extract (.tmp 33) 1, 40, "outright.go:126", #[⟨2, .data⟩, ⟨5, .gcOnly .lateStores⟩], none⟩, ⟨some 8, .assign (.tmp 36), 3, "outright.go:126", #[⟨3, .data⟩, ⟨1, .chain⟩, ⟨0, .phase⟩, ⟨1, .phase⟩, ⟨2, .phase⟩, ⟨3, .phase⟩, ⟨4, .textOnly .lateStores⟩], none⟩, ⟨some 9, .assign (.tmp 37), 40, "outright.go:126", #[⟨4, .data⟩, ⟨5, .chain⟩, ⟨0, .phase⟩, ⟨1, .phase⟩, ⟨2, .phase⟩, ⟨3, .phase⟩, ⟨4, .phase⟩, ⟨5, .phase⟩], none⟩] false) rest6 := by kernel_rfl
theorem rest6_eq : rest6 = .seq (Code.region 6 #[⟨some 39, .load 33 (.tmp 4), 33, "outright.go:127", #[], none⟩, ⟨some 40, .fieldAddr 37 (.tmp 6) 0, 0, "outright.go:127", #[], none⟩, ⟨some 41, .load 3 (.tmp 40), 3, "outright.go:127", #[⟨1, .data⟩], none⟩, ⟨some 42, .move (.tmp 3), 23, "outright.go:127", #[], none⟩, ⟨some 43, .fieldAddr 33 (.tmp 4) 4, 0, "outright.go:127", #[], none⟩, ⟨some 44, .load 3 (.tmp 43), 3, "outright.go:127", #[⟨4, .data⟩], none⟩, ⟨some 45, .unOp .neg 3 (.tmp 44), 3, "outright.go:127", #[⟨5, .data⟩], none⟩, ⟨some 46, .fieldAddr 33 (.tmp 4) 4, 0, "outright.go:127", #[], none⟩, ⟨some 47, .load 3 (.tmp 46), 3, "outright.go:127", #[⟨7, .data⟩], none⟩, ⟨some 48, .call { callee := .value (.func 11), args := #[.tmp 42, .tmp 45, .tmp 47], argTypes := #[23, 3, 3] }, 3, "outright.go:127", #[⟨3, .data⟩, ⟨6, .data⟩, ⟨8, .data⟩], none⟩, ⟨some 49, .binOp .add 3 (.tmp 41) (.tmp 48) 3, 3, "outright.go:127", #[⟨2, .data⟩, ⟨9, .data⟩], none⟩, ⟨some 50, .call { callee := .value (.func 10), args := #[.tmp 39, .tmp 49], argTypes := #[33, 3] }, 43, "outright.go:127", #[⟨0, .data⟩, ⟨10, .data⟩, ⟨9, .chain⟩], none⟩, ⟨some 38, .move (.tmp 50), 43, "outright.go:127", #[⟨11, .data⟩], none⟩, ⟨some 51, .extract (.tmp 38) 0, 26, "outright.go:127", #[⟨12, .data⟩], none⟩, ⟨some 52, .extract (.tmp 38) 1, 40, "outright.go:127", #[⟨12, .data⟩, ⟨16, .gcOnly .lateStores⟩], none⟩, ⟨some 10, .alloc 26, 0, "outright.go:127", #[], none⟩, ⟨none, .store 26 (.tmp 10) (.tmp 51), 0, "outright.go:127", #[⟨15, .data⟩, ⟨13, .data⟩, ⟨11, .chain⟩, ⟨0, .phase⟩, ⟨1, .phase⟩, ⟨2, .phase⟩, ⟨3, .phase⟩, ⟨4, .phase⟩, ⟨5, .phase⟩, ⟨6, .phase⟩, ⟨7, .phase⟩, ⟨8, .phase⟩, ⟨9, .phase⟩, ⟨10, .phase⟩, ⟨11, .phase⟩, ⟨12, .phase⟩, ⟨13, .phase⟩, ⟨14, .textOnly .lateStores⟩, ⟨15, .phase⟩], none⟩, ⟨some 11, .assign (.tmp 52), 40, "outright.go:127", #[⟨14, .data⟩, ⟨16, .chain⟩, ⟨0, .phase⟩, ⟨1, .phase⟩, ⟨2, .phase⟩, ⟨3, .phase⟩, ⟨4, .phase⟩, ⟨5, .phase⟩, ⟨6, .phase⟩, ⟨7, .phase⟩, ⟨8, .phase⟩, ⟨9, .phase⟩, ⟨10, .phase⟩, ⟨11, .phase⟩, ⟨12, .phase⟩, ⟨13, .phase⟩, ⟨14, .phase⟩, ⟨15, .phase⟩, ⟨16, .phase⟩], none⟩] true) rest7 := by kernel_rfl
theorem rest7_eq : rest7 = .seq (.seq (Code.region 7 #[⟨some 53, .move (.tmp 9), 40, "outright.go:128", #[], none⟩, ⟨some 54, .binOp .neq 40 (.tmp 53) (.const (.int .i64 0)) 40, 4, "outright.go:128", #[⟨0, .data⟩], none⟩, ⟨some 55, .move (.tmp 54), 4, "outright.go:128", #[⟨1, .data⟩], none⟩, ⟨some 56, .move (.tmp 11), 40, "outright.go:128", #[⟨2, .guard⟩], some (2, false)⟩, ⟨some 57, .binOp .neq 40 (.tmp 56) (.const (.int .i64 0)) 40, 4, "outright.go:128", #[⟨3, .data⟩, ⟨2, .guard⟩], some (2, false)⟩, ⟨some 58, .pick (.tmp 55) (.const (.bool true)) (.tmp 57), 4, "outright.go:128", #[⟨2, .data⟩, ⟨4, .data⟩], none⟩, ⟨some 59, .move (.tmp 58), 4, "outright.go:128", #[⟨5, .data⟩, ⟨2, .chain⟩], none⟩, ⟨some 60, .move (.tmp 8), 3, "outright.go:128", #[⟨6, .guard⟩], some (6, false)⟩, ⟨some 61, .fieldAddr 37 (.tmp 6) 0, 0, "outright.go:128", #[⟨6, .guard⟩], some (6, false)⟩, ⟨some 62, .load 3 (.tmp 61), 3, "outright.go:128", #[⟨8, .data⟩, ⟨6, .guard⟩], some (6, false)⟩, ⟨some 63, .move (.tmp 7), 22, "outright.go:128", #[⟨6, .guard⟩], some (6, false)⟩, ⟨some 64, .call { callee := .value (.func 13), args := #[.tmp 62, .tmp 63], argTypes := #[3, 22] }, 3, "outright.go:128", #[⟨9, .data⟩, ⟨10, .data⟩, ⟨6, .chain⟩, ⟨6, .guard⟩], some (6, false)⟩, ⟨some 65, .fieldAddr 33 (.tmp 4) 3, 0, "outright.go:128", #[⟨6, .guard⟩], some (6, false)⟩, ⟨some 66, .load 3 (.tmp 65), 3, "outright.go:128", #[⟨12, .data⟩, ⟨6, .guard⟩], some (6, false)⟩, ⟨some 67, .binOp .leq 3 (.tmp 64) (.tmp 66) 3, 4, "outright.go:128", #[⟨11, .data⟩, ⟨13, .data⟩, ⟨6, .guard⟩], some (6, false)⟩, ⟨some 68, .call { callee := .value (.func 12), args := #[.tmp 60, .tmp 67], argTypes := #[3, 4] }, 4, "outright.go:128", #[⟨7, .data⟩, ⟨14, .data⟩, ⟨11, .chain⟩, ⟨6, .guard⟩], some (6, false)⟩, ⟨some 69, .unOp .not 4 (.tmp 68), 4, "outright.go:128", #[⟨15, .data⟩, ⟨6, .guard⟩], some (6, false)⟩, ⟨some 70, .pick (.tmp 59) (.const (.bool true)) (.tmp 69), 4, "outright.go:128", #[⟨6, .data⟩, ⟨16, .data⟩], none⟩, ⟨some 71, .move (.tmp 70), 4, "outright.go:128", #[⟨17, .data⟩, ⟨15, .chain⟩], none⟩, ⟨some 72, .load 26 (.tmp 10), 26, "outright.go:128", #[⟨18, .guard⟩], some (18, false)⟩, ⟨some 73, .fieldAddr 37 (.tmp 6) 0, 0, "outright.go:128", #[⟨18, .guard⟩], some (18, false)⟩, ⟨some 74, .load 3 (.tmp 73), 3, "outright.go:128", #[⟨20, .data⟩, ⟨18, .guard⟩], some (18, false)⟩, ⟨some 75, .call { callee := .value (.func 14), args := #[.tmp 72, .tmp 74], argTypes := #[26, 3] }, 4, "outright.go:128", #[⟨19, .data⟩, ⟨21, .data⟩, ⟨18, .chain⟩, ⟨18, .guard⟩], some (18, false)⟩, ⟨some 76, .unOp .not 4 (.tmp 75), 4, "outright.go:128", #[⟨22, .data⟩, ⟨18, .guard⟩], some (18, false)⟩, ⟨some 77, .pick (.tmp 71) (.const (.bool true)) (.tmp 76), 4, "outright.go:128", #[⟨18, .data⟩, ⟨23, .data⟩], none⟩, ⟨some 78, .move (.tmp 77), 4, "outright.go:128", #[⟨24, .data⟩, ⟨22, .chain⟩], none⟩, ⟨some 79, .fieldAddr 33 (.tmp 4) 0, 0, "outright.go:128", #[⟨25, .guard⟩], some (25, false)⟩, ⟨some 80, .fieldAddr 28 (.tmp 79) 0, 0, "outright.go:128", #[⟨26, .data⟩, ⟨25, .guard⟩], some (25, false)⟩, ⟨some 81, .load 26 (.tmp 80), 26, "outright.go:128", #[⟨27, .data⟩, ⟨25, .guard⟩], some (25, false)⟩, ⟨some 82, .load 26 (.tmp 10), 26, "outright.go:128", #[⟨25, .guard⟩], some (25, false)⟩, ⟨some 83, .call { callee := .value (.func 15), args := #[.tmp 81, .tmp 82], argTypes := #[26, 26] }, 4, "outright.go:128", #[⟨28, .data⟩, ⟨29, .data⟩, ⟨25, .chain⟩, ⟨25, .guard⟩], some (25, false)⟩, ⟨some 84, .unOp .not 4 (.tmp 83), 4, "outright.go:128", #[⟨30, .data⟩, ⟨25, .guard⟩], some (25, false)⟩, ⟨some 85, .pick (.tmp 78) (.const (.bool true)) (.tmp 84), 4, "outright.go:128", #[⟨25, .data⟩, ⟨31, .data⟩], none⟩] true) (.cond (.tmp 85) (.seq (Code.region 8 #[⟨some 2, .assign (.const (.bool false)), 4, "outright.go:129", #[], none⟩] false) .ret) .skip)) rest9 := by kernel_rfl
theorem rest9_eq : rest9 = .seq (.seq (Code.region 9 #[⟨some 12, .assign (.const (.int .i64 0)), 3, "outright.go:131", #[], none⟩] false) (.block 0 (.loop (.seq (.seq (Code.region 10 #[⟨some 86, .move (.tmp 12), 3, "outright.go:131", #[], none⟩, ⟨some 87, .move (.tmp 5), 22, "outright.go:131", #[], none⟩, ⟨some 88, .call { callee := .builtin .len, args := #[.tmp 87], argTypes := #[22] }, 3, "outright.go:131", #[⟨1, .data⟩], none⟩, ⟨some 89, .binOp .lss 3 (.tmp 86) (.tmp 88) 3, 4, "outright.go:131", #[⟨0, .data⟩, ⟨2, .data⟩], none⟩] false) (.cond (.tmp 89) .skip (.exit 0))) (.seq (.block 1 (Code.region 12 #[⟨some 92, .move (.tmp 3), 23, "outright.go:132", #[], none⟩, ⟨some 93, .load 33 (.tmp 4), 33, "outright.go:132", #[], none⟩, ⟨some 94, .load 37 (.tmp 6), 37, "outright.go:132", #[], none⟩, ⟨some 95, .move (.tmp 5), 22, "outright.go:132", #[], none⟩, ⟨some 96, .move (.tmp 12), 3, "outright.go:132", #[], none⟩, ⟨some 97, .indexAddr 22 (.tmp 95) (.tmp 96), 0, "outright.go:132", #[⟨3, .data⟩, ⟨4, .data⟩], none⟩, ⟨some 98, .load 3 (.tmp 97), 3, "outright.go:132", #[⟨5, .data⟩], none⟩, ⟨some 99, .call { callee := .value (.func 16), args := #[.tmp 92, .tmp 93, .tmp 94, .tmp 98], argTypes := #[23, 33, 37, 3] }, 37, "outright.go:132", #[⟨0, .data⟩, ⟨1, .data⟩, ⟨2, .data⟩, ⟨6, .data⟩], none⟩, ⟨none, .store 37 (.tmp 6) (.tmp 99), 0, "outright.go:132", #[⟨7, .data⟩, ⟨7, .chain⟩, ⟨0, .phase⟩, ⟨1, .phase⟩, ⟨2, .phase⟩, ⟨3, .phase⟩, ⟨4, .phase⟩, ⟨5, .phase⟩, ⟨6, .phase⟩, ⟨7, .phase⟩], none⟩] true)) (Code.region 11 #[⟨some 90, .move (.tmp 12), 3, "outright.go:131", #[], none⟩, ⟨some 91, .binOp .add 3 (.tmp 90) (.const (.int .i64 1)) 3, 3, "outright.go:131", #[⟨0, .data⟩], none⟩, ⟨some 12, .assign (.tmp 91), 3, "outright.go:131", #[⟨1, .data⟩, ⟨0, .phase⟩, ⟨1, .phase⟩], none⟩] false)))))) rest13 := by kernel_rfl
theorem rest13_eq : rest13 = .seq (Code.region 13 #[⟨some 101, .load 33 (.tmp 4), 33, "outright.go:134", #[], none⟩, ⟨some 102, .move (.tmp 5), 22, "outright.go:134", #[], none⟩, ⟨some 103, .call { callee := .value (.func 17), args := #[.tmp 101, .tmp 102], argTypes := #[33, 22] }, 51, "outright.go:134", #[⟨0, .data⟩, ⟨1, .data⟩], none⟩, ⟨some 100, .move (.tmp 103), 51, "outright.go:134", #[⟨2, .data⟩], none⟩, ⟨some 104, .extract (.tmp 100) 0, 28, "outright.go:134", #[⟨3, .data⟩], none⟩, ⟨some 105, .extract (.tmp 100) 1, 40, "outright.go:134", #[⟨3, .data⟩, ⟨7, .gcOnly .lateStores⟩], none⟩, ⟨some 13, .alloc 28, 0, "outright.go:134", #[], none⟩, ⟨none, .store 28 (.tmp 13) (.tmp 104), 0, "outright.go:134", #[⟨6, .data⟩, ⟨4, .data⟩, ⟨2, .chain⟩, ⟨0, .phase⟩, ⟨1, .phase⟩, ⟨2, .phase⟩, ⟨3, .phase⟩, ⟨4, .phase⟩, ⟨5, .textOnly .lateStores⟩, ⟨6, .phase⟩], none⟩, ⟨some 9, .assign (.tmp 105), 40, "outright.go:134", #[⟨5, .data⟩, ⟨7, .chain⟩, ⟨0, .phase⟩, ⟨1, .phase⟩, ⟨2, .phase⟩, ⟨3, .phase⟩, ⟨4, .phase⟩, ⟨5, .phase⟩, ⟨6, .phase⟩, ⟨7, .phase⟩], none⟩] false) rest14 := by kernel_rfl
theorem rest14_eq : rest14 = .seq (Code.region 14 #[⟨some 107, .load 33 (.tmp 4), 33, "outright.go:135", #[], none⟩, ⟨some 108, .move (.tmp 5), 22, "outright.go:135", #[], none⟩, ⟨some 109, .call { callee := .value (.func 18), args := #[.tmp 107, .tmp 108], argTypes := #[33, 22] }, 41, "outright.go:135", #[⟨0, .data⟩, ⟨1, .data⟩], none⟩, ⟨some 106, .move (.tmp 109), 41, "outright.go:135", #[⟨2, .data⟩], none⟩, ⟨some 110, .extract (.tmp 106) 0, 3, "outright.go:135", #[⟨3, .data⟩], none⟩, ⟨some 111, .extract (.tmp 106) 1, 40, "outright.go:135", #[⟨3, .data⟩, ⟨6, .gcOnly .lateStores⟩], none⟩, ⟨some 14, .assign (.tmp 110), 3, "outright.go:135", #[⟨4, .data⟩, ⟨2, .chain⟩, ⟨0, .phase⟩, ⟨1, .phase⟩, ⟨2, .phase⟩, ⟨3, .phase⟩, ⟨4, .phase⟩, ⟨5, .textOnly .lateStores⟩], none⟩, ⟨some 11, .assign (.tmp 111), 40, "outright.go:135", #[⟨5, .data⟩, ⟨6, .chain⟩, ⟨0, .phase⟩, ⟨1, .phase⟩, ⟨2, .phase⟩, ⟨3, .phase⟩, ⟨4, .phase⟩, ⟨5, .phase⟩, ⟨6, .phase⟩], none⟩] false) rest15 := by kernel_rfl
theorem rest15_eq : rest15 = .seq (Code.region 15 #[⟨some 113, .load 33 (.tmp 4), 33, "outright.go:136", #[], none⟩, ⟨some 114, .move (.tmp 5), 22, "outright.go:136", #[], none⟩, ⟨some 115, .call { callee := .value (.func 19), args := #[.tmp 113, .tmp 114], argTypes := #[33, 22] }, 41, "outright.go:136", #[⟨0, .data⟩, ⟨1, .data⟩], none⟩, ⟨some 112, .move (.tmp 115), 41, "outright.go:136", #[⟨2, .data⟩], none⟩, ⟨some 116, .extract (.tmp 112) 0, 3, "outright.go:136", #[⟨3, .data⟩], none⟩, ⟨some 117, .extract (.tmp 112) 1, 40, "outright.go:136", #[⟨3, .data⟩, ⟨6, .gcOnly .lateStores⟩], none⟩, ⟨some 15, .assign (.tmp 116), 3, "outright.go:136", #[⟨4, .data⟩, ⟨2, .chain⟩, ⟨0, .phase⟩, ⟨1, .phase⟩, ⟨2, .phase⟩, ⟨3, .phase⟩, ⟨4, .phase⟩, ⟨5, .textOnly .lateStores⟩], none⟩, ⟨some 16, .assign (.tmp 117), 40, "outright.go:136", #[⟨5, .data⟩, ⟨6, .chain⟩, ⟨0, .phase⟩, ⟨1, .phase⟩, ⟨2, .phase⟩, ⟨3, .phase⟩, ⟨4, .phase⟩, ⟨5, .phase⟩, ⟨6, .phase⟩], none⟩] false) rest16 := by kernel_rfl
theorem rest16_eq : rest16 = .seq (Code.region 16 #[⟨some 119, .load 33 (.tmp 4), 33, "outright.go:137", #[], none⟩, ⟨some 120, .move (.tmp 5), 22, "outright.go:137", #[], none⟩, ⟨some 121, .call { callee := .value (.func 20), args := #[.tmp 119, .tmp 120], argTypes := #[33, 22] }, 41, "outright.go:137", #[⟨0, .data⟩, ⟨1, .data⟩], none⟩, ⟨some 118, .move (.tmp 121), 41, "outright.go:137", #[⟨2, .data⟩], none⟩, ⟨some 122, .extract (.tmp 118) 0, 3, "outright.go:137", #[⟨3, .data⟩], none⟩, ⟨some 123, .extract (.tmp 118) 1, 40, "outright.go:137", #[⟨3, .data⟩, ⟨6, .gcOnly .lateStores⟩], none⟩, ⟨some 17, .assign (.tmp 122), 3, "outright.go:137", #[⟨4, .data⟩, ⟨2, .chain⟩, ⟨0, .phase⟩, ⟨1, .phase⟩, ⟨2, .phase⟩, ⟨3, .phase⟩, ⟨4, .phase⟩, ⟨5, .textOnly .lateStores⟩], none⟩, ⟨some 18, .assign (.tmp 123), 40, "outright.go:137", #[⟨5, .data⟩, ⟨6, .chain⟩, ⟨0, .phase⟩, ⟨1, .phase⟩, ⟨2, .phase⟩, ⟨3, .phase⟩, ⟨4, .phase⟩, ⟨5, .phase⟩, ⟨6, .phase⟩], none⟩] false) rest17 := by kernel_rfl
theorem rest17_eq : rest17 = .seq (Code.region 17 #[⟨some 124, .fieldAddr 37 (.tmp 6) 0, 0, "outright.go:138", #[], none⟩, ⟨some 125, .load 3 (.tmp 124), 3, "outright.go:138", #[⟨0, .data⟩], none⟩, ⟨some 126, .move (.tmp 7), 22, "outright.go:138", #[], none⟩, ⟨some 127, .call { callee := .value (.func 13), args := #[.tmp 125, .tmp 126], argTypes := #[3, 22] }, 3, "outright.go:138", #[⟨1, .data⟩, ⟨2, .data⟩], none⟩, ⟨some 128, .fieldAddr 33 (.tmp 4) 3, 0, "outright.go:138", #[], none⟩, ⟨some 129, .load 3 (.tmp 128), 3, "outright.go:138", #[⟨4, .data⟩], none⟩, ⟨some 130, .binOp .leq 3 (.tmp 127) (.tmp 129) 3, 4, "outright.go:138", #[⟨3, .data⟩, ⟨5, .data⟩], none⟩, ⟨some 131, .fieldAddr 37 (.tmp 6) 1, 0, "outright.go:138", #[], none⟩, ⟨some 132, .load 3 (.tmp 131), 3, "outright.go:138", #[⟨7, .data⟩], none⟩, ⟨some 133, .fieldAddr 33 (.tmp 4) 1, 0, "outright.go:138", #[], none⟩, ⟨some 134, .fieldAddr 30 (.tmp 133) 4, 0, "outright.go:138", #[⟨9, .data⟩], none⟩, ⟨some 135, .load 3 (.tmp 134), 3, "outright.go:138", #[⟨10, .data⟩], none⟩, ⟨some 136, .binOp .lss 3 (.tmp 132) (.tmp 135) 3, 4, "outright.go:138", #[⟨8, .data⟩, ⟨11, .data⟩], none⟩, ⟨some 137, .move (.tmp 136), 4, "outright.go:138", #[⟨12, .data⟩, ⟨3, .chain⟩], none⟩, ⟨some 138, .fieldAddr 37 (.tmp 6) 2, 0, "outright.go:138", #[⟨13, .guard⟩, ⟨21, .gcOnly .lateStores⟩], some (13, false)⟩, ⟨some 139, .load 3 (.tmp 138), 3, "outright.go:138", #[⟨14, .data⟩, ⟨13, .guard⟩, ⟨21, .gcOnly .lateStores⟩], some (13, false)⟩, ⟨some 140, .fieldAddr 33 (.tmp 4) 1, 0, "outright.go:138", #[⟨13, .guard⟩, ⟨21, .gcOnly .lateStores⟩], some (13, false)⟩, ⟨some 141, .fieldAddr 30 (.tmp 140) 4, 0, "outright.go:138", #[⟨16, .data⟩, ⟨13, .guard⟩, ⟨21, .gcOnly .lateStores⟩], some (13, false)⟩, ⟨some 142, .load 3 (.tmp 141), 3, "outright.go:138", #[⟨17, .data⟩, ⟨13, .guard⟩, ⟨21, .gcOnly .lateStores⟩], some (13, false)⟩, ⟨some 143, .binOp .lss 3 (.tmp 139) (.tmp 142) 3, 4, "outright.go:138", #[⟨15, .data⟩, ⟨18, .data⟩, ⟨13, .guard⟩, ⟨21, .gcOnly .lateStores⟩], some (13, false)⟩, ⟨some 144, .pick (.tmp 137) (.const (.bool true)) (.tmp 143), 4, "outright.go:138", #[⟨13, .data⟩, ⟨19, .data⟩, ⟨21, .gcOnly .lateStores⟩], none⟩, ⟨some 19, .assign (.tmp 130), 4, "outright.go:138", #[⟨6, .data⟩, ⟨13, .chain⟩, ⟨0, .phase⟩, ⟨1, .phase⟩, ⟨2, .phase⟩, ⟨3, .phase⟩, ⟨4, .phase⟩, ⟨5, .phase⟩, ⟨6, .phase⟩, ⟨7, .textOnly .lateStores⟩, ⟨8, .textOnly .lateStores⟩, ⟨9, .textOnly .lateStores⟩, ⟨10, .textOnly .lateStores⟩, ⟨11, .textOnly .lateStores⟩, ⟨12, .textOnly .lateStores⟩, ⟨13, .textOnly .lateStores⟩, ⟨14, .textOnly .lateStores⟩, ⟨15, .textOnly .lateStores⟩, ⟨16, .textOnly .lateStores⟩, ⟨17, .textOnly .lateStores⟩, ⟨18, .textOnly .lateStores⟩, ⟨19, .textOnly .lateStores⟩, ⟨20, .textOnly .lateStores⟩], none⟩, ⟨some 20, .assign (.tmp 144), 4, "outright.go:138", #[⟨20, .data⟩, ⟨21, .chain⟩, ⟨0, .phase⟩, ⟨1, .phase⟩, ⟨2, .phase⟩, ⟨3, .phase⟩, ⟨4, .phase⟩, ⟨5, .phase⟩, ⟨6, .phase⟩, ⟨7, .phase⟩, ⟨8, .phase⟩, ⟨9, .phase⟩, ⟨10, .phase⟩, ⟨11, .phase⟩, ⟨12, .phase⟩, ⟨13, .phase⟩, ⟨14, .phase⟩, ⟨15, .phase⟩, ⟨16, .phase⟩, ⟨17, .phase⟩, ⟨18, .phase⟩, ⟨19, .phase⟩, ⟨20, .phase⟩, ⟨21, .phase⟩], none⟩] true) rest18 := by kernel_rfl
theorem rest18_eq : rest18 = .seq (Code.region 18 #[⟨some 145, .move (.tmp 9), 40, "outright.go:139", #[], none⟩, ⟨some 146, .binOp .eql 40 (.tmp 145) (.const (.int .i64 0)) 40, 4, "outright.go:139", #[⟨0, .data⟩], none⟩, ⟨some 147, .move (.tmp 146), 4, "outright.go:139", #[⟨1, .data⟩], none⟩, ⟨some 148, .move (.tmp 11), 40, "outright.go:139", #[⟨2, .guard⟩], some (2, true)⟩, ⟨some 149, .binOp .eql 40 (.tmp 148) (.const (.int .i64 0)) 40, 4, "outright.go:139", #[⟨3, .data⟩, ⟨2, .guard⟩], some (2, true)⟩, ⟨some 150, .pick (.tmp 147) (.tmp 149) (.const (.bool false)), 4, "outright.go:139", #[⟨2, .data⟩, ⟨4, .data⟩], none⟩, ⟨some 151, .move (.tmp 150), 4, "outright.go:139", #[⟨5, .data⟩, ⟨2, .chain⟩], none⟩, ⟨some 152, .move (.tmp 16), 40, "outright.go:139", #[⟨6, .guard⟩], some (6, true)⟩, ⟨some 153, .binOp .eql 40 (.tmp 152) (.const (.int .i64 0)) 40, 4, "outright.go:139", #[⟨7, .data⟩, ⟨6, .guard⟩], some (6, true)⟩, ⟨some 154, .pick (.tmp 151) (.tmp 153) (.const (.bool false)), 4, "outright.go:139", #[⟨6, .data⟩, ⟨8, .data⟩], none⟩, ⟨some 155, .move (.tmp 154), 4, "outright.go:139", #[⟨9, .data⟩, ⟨6, .chain⟩], none⟩, ⟨some 156, .move (.tmp 18), 40, "outright.go:139", #[⟨10, .guard⟩], some (10, true)⟩, ⟨some 157, .binOp .eql 40 (.tmp 156) (.const (.int .i64 0)) 40, 4, "outright.go:139", #[⟨11, .data⟩, ⟨10, .guard⟩], some (10, true)⟩, ⟨some 158, .pick (.tmp 155) (.tmp 157) (.const (.bool false)), 4, "outright.go:139", #[⟨10, .data⟩, ⟨12, .data⟩], none⟩, ⟨some 159, .move (.tmp 158), 4, "outright.go:139", #[⟨13, .data⟩, ⟨10, .chain⟩], none⟩, ⟨some 160, .fieldAddr 28 (.tmp 13) 0, 0, "outright.go:139", #[⟨14, .guard⟩], some (14, true)⟩, ⟨some 161, .load 26 (.tmp 160), 26, "outright.go:139", #[⟨15, .data⟩, ⟨14, .guard⟩], some (14, true)⟩, ⟨some 162, .fieldAddr 37 (.tmp 6) 0, 0, "outright.go:139", #[⟨14, .guard⟩], some (14, true)⟩, ⟨some 163, .load 3 (.tmp 162), 3, "outright.go:139", #[⟨17, .data⟩, ⟨14, .guard⟩], some (14, true)⟩, ⟨some 164, .call { callee := .value (.func 14), args := #[.tmp 161, .tmp 163], argTypes := #[26, 3] }, 4, "outright.go:139", #[⟨16, .data⟩, ⟨18, .data⟩, ⟨14, .chain⟩, ⟨14, .guard⟩], some (14, true)⟩, ⟨some 165, .pick (.tmp 159) (.tmp 164) (.const (.bool false)), 4, "outright.go:139", #[⟨14, .data⟩, ⟨19, .data⟩], none⟩, ⟨some 166, .move (.tmp 165), 4, "outright.go:139", #[⟨20, .data⟩, ⟨19, .chain⟩], none⟩, ⟨some 167, .fieldAddr 28 (.tmp 13) 1, 0, "outright.go:139", #[⟨21, .guard⟩], some (21, true)⟩, ⟨some 168, .load 26 (.tmp 167), 26, "outright.go:139", #[⟨22, .data⟩, ⟨21, .guard⟩], some (21, true)⟩, ⟨some 169, .fieldAddr 37 (.tmp 6) 1, 0, "outright.go:139", #[⟨21, .guard⟩], some (21, true)⟩, ⟨some 170, .load 3 (.tmp 169), 3, "outright.go:139", #[⟨24, .data⟩, ⟨21, .guard⟩], some (21, true)⟩, ⟨some 171, .call { callee := .value (.func 14), args := #[.tmp 168, .tmp 170], argTypes := #[26, 3] }, 4, "outright.go:139", #[⟨23, .data⟩, ⟨25, .data⟩, ⟨21, .chain⟩, ⟨21, .guard⟩], some (21, true)⟩, ⟨some 172, .pick (.tmp 166) (.tmp 171) (.const (.bool false)), 4, "outright.go:139", #[⟨21, .data⟩, ⟨26, .data⟩], none⟩, ⟨some 173, .move (.tmp 172), 4, "outright.go:139", #[⟨27, .data⟩, ⟨26, .chain⟩], none⟩, ⟨some 174, .fieldAddr 28 (.tmp 13) 2, 0, "outright.go:139", #[⟨28, .guard⟩], some (28, true)⟩, ⟨some 175, .load 26 (.tmp 174), 26, "outright.go:139", #[⟨29, .data⟩, ⟨28, .guard⟩], some (28, true)⟩, ⟨some 176, .fieldAddr 37 (.tmp 6) 2, 0, "outright.go:139", #[⟨28, .guard⟩], some (28, true)⟩, ⟨some 177, .load 3 (.tmp 176), 3, "outright.go:139", #[⟨31, .data⟩, ⟨28, .guard⟩], some (28, true)⟩, ⟨some 178, .call { callee := .value (.func 14), args := #[.tmp 175, .tmp 177], argTypes := #[26, 3] }, 4, "outright.go:139", #[⟨30, .data⟩, ⟨32, .data⟩, ⟨28, .chain⟩, ⟨28, .guard⟩], some (28, true)⟩, ⟨some 179, .pick (.tmp 173) (.tmp 178) (.const (.bool false)), 4, "outright.go:139", #[⟨28, .data⟩, ⟨33, .data⟩], none⟩, ⟨some 180, .move (.tmp 179), 4, "outright.go:139", #[⟨34, .data⟩, ⟨33, .chain⟩], none⟩, ⟨some 181, .fieldAddr 37 (.tmp 6) 0, 0, "outright.go:139", #[⟨35, .guard⟩], some (35, true)⟩, ⟨some 182, .load 3 (.tmp 181), 3, "outright.go:139", #[⟨36, .data⟩, ⟨35, .guard⟩], some (35, true)⟩, ⟨some 183, .move (.tmp 7), 22, "outright.go:139", #[⟨35, .guard⟩], some (35, true)⟩, ⟨some 184, .call { callee := .value (.func 13), args := #[.tmp 182, .tmp 183], argTypes := #[3, 22] }, 3, "outright.go:139", #[⟨37, .data⟩, ⟨38, .data⟩, ⟨35, .chain⟩, ⟨35, .guard⟩], some (35, true)⟩, ⟨some 185, .move (.tmp 14), 3, "outright.go:139", #[⟨35, .guard⟩], some (35, true)⟩, ⟨some 186, .binOp .leq 3 (.tmp 184) (.tmp 185) 3, 4, "outright.go:139", #[⟨39, .data⟩, ⟨40, .data⟩, ⟨35, .guard⟩], some (35, true)⟩, ⟨some 187, .pick (.tmp 180) (.tmp 186) (.const (.bool false)), 4, "outright.go:139", #[⟨35, .data⟩, ⟨41, .data⟩], none⟩, ⟨some 188, .move (.tmp 187), 4, "outright.go:139", #[⟨42, .data⟩, ⟨39, .chain⟩], none⟩, ⟨some 189, .move (.tmp 15), 3, "outright.go:139", #[⟨43, .guard⟩], some (43, true)⟩, ⟨some 190, .move (.tmp 20), 4, "outright.go:139", #[⟨43, .guard⟩], some (43, true)⟩, ⟨some 191, .call { callee := .value (.func 12), args := #[.tmp 189, .tmp 190], argTypes := #[3, 4] }, 4, "outright.go:139", #[⟨44, .data⟩, ⟨45, .data⟩, ⟨43, .chain⟩, ⟨43, .guard⟩], some (43, true)⟩, ⟨some 192, .pick (.tmp 188) (.tmp 191) (.const (.bool false)), 4, "outright.go:139", #[⟨43, .data⟩, ⟨46, .data⟩], none⟩, ⟨some 193, .move (.tmp 192), 4, "outright.go:139", #[⟨47, .data⟩, ⟨46, .chain⟩], none⟩, ⟨some 194, .move (.tmp 17), 3, "outright.go:139", #[⟨48, .guard⟩], some (48, true)⟩, ⟨some 195, .move (.tmp 19), 4, "outright.go:139", #[⟨48, .guard⟩], some (48, true)⟩, ⟨some 196, .move (.tmp 195), 4, "outright.go:139", #[⟨50, .data⟩, ⟨48, .chain⟩, ⟨48, .guard⟩], some (48, true)⟩, ⟨some 197, .move (.tmp 20), 4, "outright.go:139", #[⟨51, .guard⟩], some (51, true)⟩, ⟨some 198, .unOp .not 4 (.tmp 197), 4, "outright.go:139", #[⟨52, .data⟩, ⟨51, .guard⟩], some (51, true)⟩, ⟨some 199, .pick (.tmp 196) (.tmp 198) (.const (.bool false)), 4, "outright.go:139", #[⟨51, .data⟩, ⟨53, .data⟩, ⟨48, .guard⟩], some (48, true)⟩, ⟨some 200, .call { callee := .value (.func 12), args := #[.tmp 194, .tmp 199], argTypes := #[3, 4] }, 4, "outright.go:139", #[⟨49, .data⟩, ⟨54, .data⟩, ⟨51, .chain⟩, ⟨48, .guard⟩], some (48, true)⟩, ⟨some 201, .pick (.tmp 193) (.tmp 200) (.const (.bool false)), 4, "outright.go:139", #[⟨48, .data⟩, ⟨55, .data⟩], none⟩, ⟨some 202, .move (.tmp 201), 4, "outright.go:139", #[⟨56, .data⟩, ⟨55, .chain⟩], none⟩, ⟨some 203, .call { callee := .value (.func 21), args := #[], argTypes := #[] }, 4, "outright.go:139", #[⟨57, .chain⟩, ⟨57, .guard⟩], some (57, true)⟩, ⟨some 204, .pick (.tmp 202) (.tmp 203) (.const (.bool false)), 4, "outright.go:139", #[⟨57, .data⟩, ⟨58, .data⟩], none⟩, ⟨some 2, .assign (.tmp 204), 4, "outright.go:139", #[⟨59, .data⟩, ⟨58, .chain⟩, ⟨0, .phase⟩, ⟨1, .phase⟩, ⟨2, .phase⟩, ⟨3, .phase⟩, ⟨4, .phase⟩, ⟨5, .phase⟩, ⟨6, .phase⟩, ⟨7, .phase⟩, ⟨8, .phase⟩, ⟨9, .phase⟩, ⟨10, .phase⟩, ⟨11, .phase⟩, ⟨12, .phase⟩, ⟨13, .phase⟩, ⟨14, .phase⟩, ⟨15, .phase⟩, ⟨16, .phase⟩, ⟨17, .phase⟩, ⟨18, .phase⟩, ⟨19, .phase⟩, ⟨20, .phase⟩, ⟨21, .phase⟩, ⟨22, .phase⟩, ⟨23, .phase⟩, ⟨24, .phase⟩, ⟨25, .phase⟩, ⟨26, .phase⟩, ⟨27, .phase⟩, ⟨28, .phase⟩, ⟨29, .phase⟩, ⟨30, .phase⟩, ⟨31, .phase⟩, ⟨32, .phase⟩, ⟨33, .phase⟩, ⟨34, .phase⟩, ⟨35, .phase⟩, ⟨36, .phase⟩, ⟨37, .phase⟩, ⟨38, .phase⟩, ⟨39, .phase⟩, ⟨40, .phase⟩, ⟨41, .phase⟩, ⟨42, .phase⟩, ⟨43, .phase⟩, ⟨44, .phase⟩, ⟨45, .phase⟩, ⟨46, .phase⟩, ⟨47, .phase⟩, ⟨48, .phase⟩, ⟨49, .phase⟩, ⟨50, .phase⟩, ⟨51, .phase⟩, ⟨52, .phase⟩, ⟨53, .phase⟩, ⟨54, .phase⟩, ⟨55, .phase⟩, ⟨56, .phase⟩, ⟨57, .phase⟩, ⟨58, .phase⟩, ⟨59, .phase⟩], none⟩] false) .ret := by kernel_rfl

/-- What JobOf is known to hand back. -/
def JobP9 (b : Nat) (w : World) (e : Ending) (w' : World) : Prop :=
  ∃ (J : Jb) (a : Option Addr) (n c : Nat), e = .returned (.agg (jobC J (.slice a n c))) ∧ n = J.sh.length ∧ Rg w' w'.heap.size a J.sh ∧ J.check = 0 ∧ PB b w.heap.size w w' ∧ Pt w' b
/-- What the law's end is held to. -/
def QL (w0 : World) : Exit → Act → World → Prop := bodyPost Try.prog Try.f3 fun e w' => e = .returned (.bool true) ∧ Below w0.heap.size w0 w'
/-- What stands when the job and the strokes are made. -/
structure L3 (w0 w3 : World) (b g4 : Nat) (J : Jb) (ja : Option Addr) (jn jc : Nat) (la : Option Addr) (ln : Nat) (l : List Int) : Prop where
  b0 : Below w0.heap.size w0 w3
  hb : w0.heap.size ≤ b
  pt : Pt w3 b
  job : Bk w3 g4 33 (jobC J (.slice ja jn jc))
  ne : g4 ≠ b
  rg : Rg w3 w3.heap.size ja J.sh
  ejn : jn = J.sh.length
  ck : J.check = 0
  st : Is w3 w3.heap.size la l
  eln : ln = l.length
  l6 : ln ≤ 6
  l12 : ∀ x ∈ l, x = 1 ∨ x = 2
abbrev fdC (x : Fd) : Array Value := #[.int .i64 x.p, .int .i64 x.t, .int .i64 x.r]
/-- What stands besides when a truth is made. -/
structure LS (w3 : World) (b g6 : Nat) (x : Fd) (sa : Option Addr) (shl : List Int) (w : World) : Prop where
  fr : PB b w3.heap.size w3 w
  pt : Pt w b
  fd : Bk w g6 37 (fdC x)
  sh : Isg w g6 sa shl
  g6 : w3.heap.size ≤ g6
section
variable {w0 w3 : World} {b g4 : Nat} {J : Jb} {ja : Option Addr} {jn jc : Nat} {la : Option Addr} {ln : Nat} {l : List Int} {g6 : Nat} {x : Fd} {sa : Option Addr} {shl : List Int} {w w' : World}
theorem LS.next (h : LS w3 b g6 x sa shl w) (hb : Below w.heap.size w w') : LS w3 b g6 x sa shl w' :=
  ⟨h.fr.below hb h.fr.size, h.pt.below hb h.pt.lt, h.fd.below hb h.fd.lt, h.sh.pg h.pt ((PG.refl _ _ _ _).below hb (Nat.le_refl _)), h.g6⟩
theorem LS.draw (h : LS w3 b g6 x sa shl w) : LS w3 b g6 x sa shl w.drew := h.next (Below.refl _ _).drew
theorem LS.job (h : LS w3 b g6 x sa shl w) (h3 : L3 w0 w3 b g4 J ja jn jc la ln l) : Bk w g4 33 (jobC J (.slice ja jn jc)) := h3.job.pb h.fr h3.job.lt h3.ne
theorem LS.rg (h : LS w3 b g6 x sa shl w) (h3 : L3 w0 w3 b g4 J ja jn jc la ln l) : Rg w w.heap.size ja J.sh := h3.rg.pb h3.pt h.fr
theorem LS.st (h : LS w3 b g6 x sa shl w) (h3 : L3 w0 w3 b g4 J ja jn jc la ln l) : Is w w.heap.size la l := h3.st.pb h3.pt h.fr
theorem LS.neb (h : LS w3 b g6 x sa shl w) (h3 : L3 w0 w3 b g4 J ja jn jc la ln l) : g6 ≠ b := by
  have h1 := h3.pt.lt
  have h2 := h.g6
  omega
theorem LS.ne4 (h : LS w3 b g6 x sa shl w) (h3 : L3 w0 w3 b g4 J ja jn jc la ln l) : g4 < g6 := by
  have h1 := h3.job.lt
  have h2 := h.g6
  omega
theorem LS.pot (h : LS w3 b g6 x sa shl w) (h3 : L3 w0 w3 b g4 J ja jn jc la ln l) (hk : PB b w.heap.size w w') (hp : Pt w' b) : LS w3 b g6 x sa shl w' :=
  ⟨h.fr.trans hk h.fr.size, hp, h.fd.pb hk h.fd.lt (h.neb h3), h.sh.pg h.pt ((PG.refl _ _ _ _).pb hk (Nat.le_refl _)), h.g6⟩
theorem LS.done (h : LS w3 b g6 x sa shl w) (h3 : L3 w0 w3 b g4 J ja jn jc la ln l) : Below w0.heap.size w0 w := h3.b0.trans ((h.fr.mono h3.b0.size).toBelow h3.hb)
end
theorem in_true (a b n : Int) (w : World) (h : a ≤ n ∧ n ≤ b) :
    Calls Try.prog 14 #[.agg #[.int .i64 a, .int .i64 b], .int .i64 n] w fun e w' => e = .returned (.bool true) ∧ Below w.heap.size w w' := by
  have := in_any a b n w
  rw [decide_eq_true h] at this
  exact this
theorem filed_0 {J : Jb} {l : List Int} (h : J.check = 0) (h6 : l.length ≤ 6) (h12 : ∀ x ∈ l, x = 1 ∨ x = 2) : filedE J l = 0 := by
  unfold filedE
  rw [if_pos h]
  unfold strokesE
  rw [if_neg (by omega)]
  induction l with
  | nil => rfl
  | cons y l ih =>
    unfold kindE
    rw [if_pos (h12 y List.mem_cons_self)]
    exact ih (by simp at h6; omega) (fun z hz => h12 z (List.mem_cons_of_mem _ hz))
end Go.Proofs.Ytggokdmlijipjaa
