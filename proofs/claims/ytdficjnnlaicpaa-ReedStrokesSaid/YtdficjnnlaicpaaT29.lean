/- Part 29 of the proof: PotS, Same, IntsT, Pots, AfterB. -/
import Derived.Deep.QuietTactic
import Derived.BigQuiet
import Derived.Deep.WholeRow
import Derived.Test.YtdficjnnlaicpaaT28
import Derived.Test.YtdficjnnlaicpaaT11
import Derived.Test.YtdficjnnlaicpaaT13
/- Contract of StrokesOf. -/
namespace Go.Proofs.Ytdficjnnlaicpaa
set_option linter.all false
open Go.RowKit
theorem PB.grown {b : Nat} {w w' : World} (h : PB b w.heap.size w w') : w.grownBy w' (some b) := ⟨h.os, h.tape, h.output, h.size, fun k hk hb => h.heap k hk (fun e => hb (by rw [e]))⟩
theorem PB.grownTo {b B : Nat} {w w' w'' : World} {row : Option Nat} (h : PB b B w w') (hg : w'.grownBy w'' row) (hB : B ≤ w'.heap.size) (hr : ∀ g, row = some g → B ≤ g) : PB b B w w'' :=
  ⟨hg.os.trans h.os, hg.tape.trans h.tape, hg.output.trans h.output, Nat.le_trans h.size hg.size, fun k hk hb => (hg.block k (Nat.lt_of_lt_of_le hk hB) (fun e => by have := hr k e.symm; omega)).trans (h.heap k hk hb)⟩
theorem own_pb {b base e size n : Nat} {w w' : World} {v : Value} {xs : List Value} (h : w.ownsRow base e size v n xs) (hb : b < base) (hk : PB b w.heap.size w w') : w'.ownsRow base e size v n xs :=
  h.kept hk.grown (by
    cases hv : v.ownBlock with
    | none => exact .inl rfl
    | some g => exact .inr fun e => by have := (h.lt g hv).1; cases e; omega)
theorem infoInt : (Try.prog.info? 3).map (fun i => (i.zero, i.size, i.bytes)) = some (some (.int .i64 0), 1, 8) := by kernel_rfl
theorem news_one {W : World} {g : Nat} {t : TypeId} {x : Value} (h : Bk W g t #[x]) : ∀ j u, [x][j]? = some u → W.cell? ((⟨g, 0, none⟩ : Addr).add j) = some u := by
  intro j u hj
  have : (⟨g, 0, none⟩ : Addr).add j = ⟨g, j, none⟩ := by unfold Addr.add; split <;> simp_all
  rw [this]
  exact h.at_ j u (by simpa using hj)
theorem Is.of_own {w : World} {B e n : Nat} {v : Value} {l : List Int} (h : w.ownsRow B e 1 v n (l.map (Value.int .i64))) : ∃ a c, v = .slice a n c ∧ n = l.length ∧ Is w w.heap.size a l := by
  have hl := h.1
  simp only [List.length_map] at hl
  rcases h.2 with ⟨rfl, rfl⟩ | ⟨g, cap, cur, rfl, hb, hg, hnc, hcm, hcs, htk⟩
  · have e : l = [] := List.length_eq_zero_iff.1 (by omega)
    subst e
    exact ⟨none, 0, rfl, rfl, Is.nil _ _ _⟩
  · refine ⟨some ⟨g, 0, none⟩, cap, rfl, by omega, fun k x hk => ⟨g, 0, rfl, (Array.getElem?_eq_some_iff.1 hg).1, ?_⟩⟩
    have hkl := (List.getElem?_eq_some_iff.1 hk).1
    rw [cell_of_row w g (0 + k) cur e (0, 0) hg, Nat.zero_add, ← Array.getElem?_toList]
    have h1 : (cur.toList.take (n * 1))[k]? = some (.int .i64 x) := by rw [htk]; simp [hk]
    rw [List.getElem?_take_of_lt (by omega)] at h1
    exact h1
set_option maxHeartbeats 2000000 in
set_option maxRecDepth 100000 in
theorem strokesOf_any (b : Nat) (w : World) (hp : Pt w b) :
    Calls Try.prog 19 #[.pointer (some ⟨b, 0, none⟩), .int .i64 6] w fun e w' => ∃ (a : Option Addr) (n c : Nat) (l : List Int), e = .returned (.slice a n c) ∧ n = l.length ∧ n ≤ 6 ∧ (∀ x ∈ l, x = 1 ∨ x = 2) ∧ Is w' w'.heap.size a l ∧ PB b w.heap.size w w' ∧ Pt w' b := by
  have hlt := hp.lt
  obtain ⟨i0, hi, hz0, hz1, hz2⟩ := info_parts infoInt
  have Hi : Hid (Try.prog.info? 3 = some i0) := hi
  have Hz0 : Hid (i0.zero = some (.int .i64 0)) := hz0
  have Hz1 : Hid (i0.size = 1) := hz1
  have Hz2 : Hid (i0.bytes = 8) := hz2
  clear hi hz0 hz1 hz2
  go_enter Try.func19, Try.ntmps19
  go_wp2_with fail
  refine (uptoP b 6 _ hp (by decide)).mono ?_
  rintro e w1 ⟨m, rfl, ⟨hm1, hm2⟩, hk1, hp1⟩
  go_wp2_with fail
  have hz1 := hk1.size
  have hlt1 := hp1.lt
  go_loopw [5, 6] (fun v i wr => ∃ (k : Nat) (j : Int) (l : List Int), (j + k = m ∧ 0 ≤ j) ∧ i = .int .i64 j ∧ l.length = k ∧ (∀ x ∈ l, x = 1 ∨ x = 2) ∧ wr.ownsRow w1.heap.size 3 1 v k (l.map (Value.int .i64)) ∧ PB b w.heap.size w wr ∧ Pt wr b ∧ w1.heap.size ≤ wr.heap.size) (fun _ i _ => (intOf i).toNat)
  case atStart => exact ⟨0, m, [], ⟨by omega, hm1⟩, rfl, rfl, by simp, World.ownsRow_nil _ _ _ _, hk1, hp1, Nat.le_refl _⟩
  case round =>
    obtain ⟨k, j, l, ⟨hj1, hj2⟩, rfl, hlk, hl12, own, hPB, hpr, hzr⟩ := hrel
    have hltr := hpr.lt
    by_cases hlt : 0 < j
    · have Ho := hidMk own
      have Hl := hidMk hl12
      have Hlk := hidMk hlk
      clear own hl12 hlk
      go_wp2_with (first
        | (go_at_call 38; refine (of2P b wr.heap.size 1 2 _ _ (hpr.alloc _) (by omega) (Bk.new _ _ _)).mono ?_; rintro e w2 ⟨x, rfl, hx, hk2, hp2⟩; have hz2 := hk2.size; simp only [World.size_alloc] at hz2; have O2 := hidMk (own_pb (Ho.out.alloc _) (by omega) hk2); have K2 := hidMk ((hPB.alloc (by omega) _).trans hk2 (by simp; omega)))
        | (at_builtin; refine wpList_append_own_at _ rfl (.tmp 14) (.tmp 18) 31 rfl w1.heap.size 3 i0 (.int .i64 0) 1 8 Try.underlying31 Hi.out Hz0.out Hz1.out Hz2.out rfl (by decide) _ k _ rfl (O2.out.alloc _) ⟨w2.heap.size, 0, none⟩ 1 1 [.int .i64 x] rfl rfl (news_one (Bk.new _ _ _)) (by simp [Value.oneCell']) (by unfold maxLen; omega) (by omega) (by simp; omega) ?_; intro v' w3 own' hg _ at_; have hz3 := hg.size; simp only [World.size_alloc] at hz3; have O3 := hidMk own'; clear own'; have hr : ∀ g, Value.ownBlock _ = some g → w1.heap.size ≤ g := (fun g e => (O2.out.lt g e).1)))
      go_roundw
      case rel =>
        refine ⟨k + 1, j - 1, l ++ [x], ⟨by omega, by omega⟩, by go_num, by rw [List.length_append]; simp [Hlk.out], ?_, ?_, ?_, ?_, ?_⟩
        · intro y hy
          rcases List.mem_append.1 hy with hy | hy
          · exact Hl.out y hy
          · rw [List.mem_singleton.1 hy]; exact hx
        · rw [List.map_append]
          exact O3.out
        · exact (K2.out.alloc (by omega) _).grownTo hg (by simp; omega) (fun g e => by have := hr g e; omega)
        · exact (hp2.alloc _).grown hg (fun e => by have := hr b e.symm; omega)
        · omega
      case measure => simp [intOf]; omega
    · obtain rfl : j = 0 := by omega
      obtain ⟨a, c, rfl, hn, his⟩ := Is.of_own own
      clear own
      go_wp2_with fail
      go_ret
      exact ⟨a, k, c, l, rfl, hn, by omega, hl12, his, hPB, hpr⟩
end Go.Proofs.Ytdficjnnlaicpaa
/- The contract of musettekit.SameInts. -/
namespace Go.Proofs.Ytdficjnnlaicpaa
set_option linter.all false
open Go.RowKit

theorem below_drewN {B : Nat} {a w : World} (h : Below B a w) (n : Nat) : Below B a (w.drewN n) := ⟨h.os, h.tape, h.output, h.size, h.block⟩

set_option maxHeartbeats 1000000 in
theorem sameInts_any (a b : Option Addr) (n c m d : Nat) (l p : List Int) (w : World) (hn : n = l.length) (hm : m = p.length) (h1 : n ≤ 1000) (h2 : m ≤ 1000) (hl : Is w w.heap.size a l) (hp : Is w w.heap.size b p) :
    Calls Try.prog 30 #[.slice a n c, .slice b m d] w fun e w' => e = .returned (.bool (decide (l = p))) ∧ Below w.heap.size w w' := by
  have Hn : Hid (n = l.length) := hn
  have Hm : Hid (m = p.length) := hm
  have Hl := hidMk hl
  have Hp := hidMk hp
  clear hn hm hl hp
  by_cases e0 : n = m
  · subst e0
    go_enter Try.func30, Try.ntmps30
    go_wp2
    go_loopw [5, 6] (fun s i wr => ∃ (k : Nat) (v : Bool), k ≤ n ∧ s = .bool v ∧ i = .int .i64 k ∧ Hid (v = true → l.take k = p.take k) ∧ Hid (v = false → l ≠ p) ∧ Below w.heap.size w wr) (fun _ i _ => n - (intOf i).toNat)
    case atStart => exact ⟨0, true, Nat.zero_le _, by simp, rfl, hidMk (fun _ => rfl), hidMk (fun h => by cases h), Below.refl _ _⟩
    case round =>
      obtain ⟨k, v, hk, rfl, rfl, Ht, Hf, hB⟩ := hrel
      have hs := hB.size
      cases v
      · go_wp2
        go_ret
        exact ⟨ret_b (by rw [decide_eq_false (Hf.out (by simp))]), hB⟩
      · by_cases hlt : k < n
        · have k1 : k < l.length := by rw [← Hn.out]; exact hlt
          have k2 : k < p.length := by rw [← Hm.out]; exact hlt
          obtain ⟨b1, o1, rfl, hb1, e1⟩ := Hl.out k l[k] (List.getElem?_eq_getElem k1)
          obtain ⟨b2, o2, rfl, hb2, e2⟩ := Hp.out k p[k] (List.getElem?_eq_getElem k2)
          replace e1 := (hB.cell (p := ⟨b1, o1 + k, none⟩) hb1).trans e1
          replace e2 := (hB.cell (p := ⟨b2, o2 + k, none⟩) hb2).trans e2
          obtain ⟨x, Hx⟩ : ∃ x, Hid (x = l[k]) := ⟨_, hidMk rfl⟩
          obtain ⟨y, Hy⟩ : ∃ y, Hid (y = p[k]) := ⟨_, hidMk rfl⟩
          rw [← Hx.out] at e1
          rw [← Hy.out] at e2
          have i1 : (k : Int) < (n : Int) := by omega
          have i2 : (0 : Int) ≤ (k : Int) := by omega
          go_wp2
          go_quiet (fail)
          go_wp2
          go_roundw
          case rel =>
            refine ⟨k + 1, (x == y), by omega, rfl, by go_num, hidMk (fun h => ?_), hidMk (fun h => ?_), below_drewN hB _⟩
            · have hxy : x = y := by simpa using h
              rw [take_snoc l k k1, take_snoc p k k2, Ht.out (by simp), ← Hx.out, ← Hy.out, hxy]
            · intro hlp
              have hxy : x ≠ y := by simpa using h
              apply hxy
              rw [Hx.out, Hy.out]
              simp only [hlp]
          case measure => simp [intOf]; omega
        · obtain rfl : k = n := by omega
          go_wp2
          go_ret
          have e : l = p := by
            have := Ht.out (by simp)
            rw [List.take_of_length_le (by rw [← Hn.out]; omega), List.take_of_length_le (by rw [← Hm.out]; omega)] at this
            exact this
          exact ⟨ret_b (by rw [decide_eq_true e]), hB⟩
  · have hb : ((n : Int) == (m : Int)) = false := by rw [beq_eq_false_iff_ne]; omega
    have He : Hid (l ≠ p) := by
      intro h
      apply e0
      rw [Hn.out, Hm.out, h]
    clear e0
    go_enter Try.func30, Try.ntmps30
    go_wp2
    refine wp_loop_rounds 1 ?_
    rw [rounds_succ]
    go_wp2
    go_ret
    exact ⟨ret_b (by rw [decide_eq_false He.out]), Below.refl _ _⟩
end Go.Proofs.Ytdficjnnlaicpaa
/- Contracts of the kit's Ints and Turn. -/
namespace Go.Proofs.Ytdficjnnlaicpaa
set_option linter.all false
open Go.RowKit
theorem add_i (b off k : Nat) : (⟨b, off, none⟩ : Addr).add k = ⟨b, off + k, none⟩ := by
  unfold Addr.add
  split
  · rename_i hk0; subst hk0; rfl
  · rfl
theorem is_news {W : World} {B : Nat} {ad : Addr} {l : List Int} (h : Is W B (some ad) l) : ∀ j u, (l.map (Value.int .i64))[j]? = some u → W.cell? (ad.add j) = some u := by
  intro j u hj
  rw [List.getElem?_map] at hj
  obtain ⟨x, hx, rfl⟩ := Option.map_eq_some_iff.1 hj
  obtain ⟨b, off, e, _, e0⟩ := h j x hx
  cases e
  rw [add_i]
  exact e0
theorem is_one (l : List Int) : ∀ u ∈ l.map (Value.int .i64), u.oneCell' = true := by
  intro u hu
  obtain ⟨x, _, rfl⟩ := List.mem_map.1 hu
  rfl
set_option maxHeartbeats 1000000 in
set_option maxRecDepth 100000 in
theorem ints_some (ad : Addr) (n c : Nat) (l : List Int) (w : World) (hn : n = l.length) (hm : n ≤ 1000) (h : Is w w.heap.size (some ad) l) :
    Calls Try.prog 21 #[.slice (some ad) n c] w fun e w' => ∃ a' c', e = .returned (.slice a' n c') ∧ Is w' w'.heap.size a' l ∧ Below w.heap.size w w' ∧ ∀ q off, a' = some ⟨q, off, none⟩ → w.heap.size ≤ q ∧ q < w'.heap.size := by
  obtain ⟨i0, hi, hz0, hz1, hz2⟩ := info_parts infoInt
  have Hi : Hid (Try.prog.info? 3 = some i0) := hi
  have Hz0 := hidMk hz0
  have Hz1 := hidMk hz1
  have Hz2 := hidMk hz2
  clear hi hz0 hz1 hz2
  have Hn := hidMk hn
  have Hh := hidMk h
  clear hn h
  go_enter Try.func21, Try.ntmps21
  have own0 : (w.alloc (.cells #[] 3)).ownsRow w.heap.size 3 1 (.slice (some ⟨w.heap.size, 0, none⟩) 0 0) 0 [] :=
    ⟨rfl, .inr ⟨w.heap.size, 0, #[], rfl, Nat.le_refl _, Bk.new _ _ _, Nat.le_refl _, Nat.zero_le _, rfl, rfl⟩⟩
  have Ho := hidMk own0
  clear own0
  go_wp2_with (at_builtin; refine wpList_append_own_at _ rfl (.tmp 3) (.tmp 4) 31 rfl w.heap.size 3 i0 (.int .i64 0) 1 8 Try.underlying31 Hi.out Hz0.out Hz1.out Hz2.out rfl (by decide) _ 0 [] rfl Ho.out ad n c (l.map (Value.int .i64)) rfl (by rw [List.length_map, Hn.out]; omega) (is_news (Hh.out.up ((Below.refl _ _).alloc (Nat.le_refl _) _))) (is_one l) (by unfold maxLen; omega) (by omega) (by simp) ?_; intro v' w3 own' hg _ at_)
  go_ret
  have own2 : w3.ownsRow w.heap.size 3 1 v' n (l.map (Value.int .i64)) := by simpa using own'
  obtain ⟨a, c2, rfl, hln, his⟩ := Is.of_own own2
  refine ⟨a, c2, rfl, his, ((Below.refl _ _).alloc (Nat.le_refl _) (.cells #[] 3)).grown hg (by simp) (fun g e => by cases e; exact Nat.le_refl _), fun q off e => ?_⟩
  rcases own2.2 with ⟨h, _⟩ | ⟨g', cap, cur, h, hb, hh, _⟩
  · cases h
    cases e
  · cases h
    cases e
    exact ⟨hb, (Array.getElem?_eq_some_iff.1 hh).1⟩
theorem ints_none (n c : Nat) (hn : n = 0) (w : World) :
    Calls Try.prog 21 #[.slice none n c] w fun e w' => ∃ a' c', e = .returned (.slice a' n c') ∧ Is w' w'.heap.size a' [] ∧ Below w.heap.size w w' ∧ ∀ q off, a' = some ⟨q, off, none⟩ → w.heap.size ≤ q ∧ q < w'.heap.size := by
  subst hn
  go_enter Try.func21, Try.ntmps21
  go_wp2_with fail
  go_ret
  exact ⟨_, _, rfl, Is.nil _ _ _, (Below.refl _ _).alloc (Nat.le_refl _) _, fun q off e => by cases e; exact ⟨Nat.le_refl _, by simp⟩⟩
theorem ints_any (a : Option Addr) (n c : Nat) (l : List Int) (w : World) (hn : n = l.length) (hm : n ≤ 1000) (h : Is w w.heap.size a l) :
    Calls Try.prog 21 #[.slice a n c] w fun e w' => ∃ a' c', e = .returned (.slice a' n c') ∧ Is w' w'.heap.size a' l ∧ Below w.heap.size w w' ∧ ∀ q off, a' = some ⟨q, off, none⟩ → w.heap.size ≤ q ∧ q < w'.heap.size := by
  cases a with
  | some ad => exact ints_some ad n c l w hn hm h
  | none =>
    have hl : l = [] := by
      cases l with
      | nil => rfl
      | cons x l =>
        obtain ⟨b, off, e, _⟩ := h 0 x rfl
        cases e
    subst hl
    exact ints_none n c (by simpa using hn) w
theorem tmod_bd (x n : Int) (hn : 1 ≤ n) : -n < x.tmod n ∧ x.tmod n < n := by
  have h1 := Int.tmod_lt_of_pos x (by omega : 0 < n)
  have h2 := Int.lt_tmod_of_pos x (by omega : 0 < n)
  exact ⟨h2, h1⟩
set_option maxHeartbeats 1000000 in
theorem turn_any (x n : Int) (hx : -9223372036854775808 ≤ x ∧ x ≤ 9223372036854775807) (hn : 1 ≤ n ∧ n ≤ 1000) (w : World) :
    Calls Try.prog 20 #[.int .i64 x, .int .i64 n] w fun e w' => ∃ r, e = .returned (.int .i64 r) ∧ (0 ≤ r ∧ r < n) ∧ Below w.heap.size w w' := by
  by_cases h2 : n < 2
  · go_enter Try.func20, Try.ntmps20
    go_wp2
    go_ret
    exact ⟨0, rfl, ⟨by omega, by omega⟩, Below.refl _ _⟩
  · have b1 := tmod_bd x n hn.1
    have b2 := tmod_bd (x.tmod n + n) n hn.1
    have b3 : 0 ≤ (x.tmod n + n).tmod n := Int.tmod_nonneg n (by omega)
    have hn0 : ¬ n = 0 := by omega
    have hn0' : (n == 0) = false := by rw [beq_eq_false_iff_ne]; exact hn0
    have e1 : IntKind.i64.wrap (x.tmod n) = x.tmod n := IntWalk.i64_in _ (by omega)
    have e2 : IntKind.i64.wrap (x.tmod n + n) = x.tmod n + n := IntWalk.i64_in _ (by omega)
    have e3 : IntKind.i64.wrap ((x.tmod n + n).tmod n) = (x.tmod n + n).tmod n := IntWalk.i64_in _ (by omega)
    go_enter Try.func20, Try.ntmps20
    go_wp2
    go_ret
    exact ⟨_, rfl, ⟨Int.emod_nonneg _ (by omega), Int.emod_lt_of_pos _ (by omega)⟩, Below.refl _ _⟩
end Go.Proofs.Ytdficjnnlaicpaa
/- The contract of NewPot: a new block with one number; nothing else is changed. -/
namespace Go.Proofs.Ytdficjnnlaicpaa
set_option linter.all false
open Go.RowKit
set_option maxHeartbeats 1000000 in
theorem newPot_any (a : Option Addr) (n c : Nat) (l : List Int) (w : World) (hn : n = l.length) (hm : n ≤ 9223372036854775807) (h : Is w w.heap.size a l) :
    Calls Try.prog 6 #[.slice a n c] w fun e w' => ∃ s t, e = .returned (.pointer (some ⟨w.heap.size, 0, none⟩)) ∧ Bk w' w.heap.size t #[.int .u64 s] ∧ Below w.heap.size w w' := by
  have Hn : Hid (n = l.length) := hn
  have Hh : Hid (Is w w.heap.size a l) := h
  clear hn h
  go_enter Try.func6, Try.ntmps6
  go_wp2
  go_loopw [4] (fun i wr => ∃ (k : Nat) (s : Int) (t : TypeId), k ≤ n ∧ i = .int .i64 k ∧ Bk wr w.heap.size t #[.int .u64 s] ∧ Below w.heap.size w wr) (fun i _ => n - (intOf i).toNat)
  case atStart => exact ⟨0, _, _, Nat.zero_le _, rfl, Bk.new w _ _, (Below.refl _ _).alloc (Nat.le_refl _) _⟩
  case round =>
    obtain ⟨k, s, t, hk, rfl, hb, hB⟩ := hrel
    have c0 := hb.at_ 0 _ rfl
    have f0 := hb.free 0
    have hl := hb.lt
    by_cases hlt : k < n
    · have hkl : k < l.length := by rw [← Hn.out]; exact hlt
      obtain ⟨b, off, rfl, hbl, e0⟩ := Hh.out k l[k] (List.getElem?_eq_getElem hkl)
      replace e0 := (hB.cell (p := ⟨b, off + k, none⟩) hbl).trans e0
      obtain ⟨x, hx⟩ : ∃ x, l[k] = x := ⟨_, rfl⟩
      rw [hx] at e0
      have hne : b ≠ w.heap.size := by omega
      have hne' : w.heap.size ≠ b := by omega
      have i0 : (0 : Int) ≤ ↑k := by omega
      have i1 : (↑k : Int) < ↑n := by omega
      have HB := hidMk hB
      have Hb := hidMk hb
      clear hB hb hx hbl Hh Hn hkl
      go_wp2
      go_region
      clear e0 hne hne'
      obtain ⟨s1, hs1⟩ : ∃ s1, IntKind.u64.wrap (bits BinOp.xor IntKind.u64 s (IntKind.u64.wrap x) * 15485907386658061715) = s1 := ⟨_, rfl⟩
      rw [hs1]
      clear hs1
      go_wp2
      go_region
      go_wp2
      go_roundw
      case rel =>
        exact ⟨k + 1, _, t, by omega, by go_num, ((Hb.out.put1 _).put1 _), ((HB.out.setCell (Nat.le_refl _) _).setCell (Nat.le_refl _) _).drew.drew⟩
      case measure => simp [intOf]; omega
    · obtain rfl : k = n := by omega
      go_wp2
      go_ret
      exact ⟨s, t, rfl, hb, hB⟩
end Go.Proofs.Ytdficjnnlaicpaa
/- The contract of reed.After. -/
namespace Go.Proofs.Ytdficjnnlaicpaa
set_option linter.all false
open Go.RowKit

set_option maxHeartbeats 1000000 in
set_option maxRecDepth 100000 in
theorem afterF_any (J : Jb) (a : Option Addr) (n c : Nat) (b : Option Addr) (m d : Nat) (l : List Int) (w : World) (hn : n = J.sh.length) (hm : n ≤ 9223372036854775807) (h : Rg w w.heap.size a J.sh)
    (hmn : m = l.length) (hmm : m ≤ 9223372036854775807) (hl : Is w w.heap.size b l) :
    Calls Try.prog 22 #[.agg (jobC J (.slice a n c)), .slice b m d] w (AfterAns J l w) := by
  have Hn : Hid (n = J.sh.length) := hn
  have Hh : Hid (Rg w w.heap.size a J.sh) := h
  have Hm : Hid (m = l.length) := hmn
  have Hl : Hid (Is w w.heap.size b l) := hl
  clear hn h hmn hl
  have b0 : Bk ((w.alloc (.cells (jobC J (.slice a n c)) 30)).alloc (.cells #[.int .i64 0, .int .i64 0, .int .i64 0, .int .i64 0, .int .i64 0, .int .i64 0] 25)) w.heap.size 30 (jobC J (.slice a n c)) := (Bk.new w _ _).alloc _
  have b1 : Bk ((w.alloc (.cells (jobC J (.slice a n c)) 30)).alloc (.cells #[.int .i64 0, .int .i64 0, .int .i64 0, .int .i64 0, .int .i64 0, .int .i64 0] 25)) (w.heap.size + 1) 25 #[.int .i64 0, .int .i64 0, .int .i64 0, .int .i64 0, .int .i64 0, .int .i64 0] := Bk.newAt _ _ _ _ (by simp)
  have hW : Below w.heap.size w ((w.alloc (.cells (jobC J (.slice a n c)) 30)).alloc (.cells #[.int .i64 0, .int .i64 0, .int .i64 0, .int .i64 0, .int .i64 0, .int .i64 0] 25)) := ((Below.refl _ _).alloc (Nat.le_refl _) _).alloc (by simp) _
  by_cases hc : filedE J l = 0
  · have Hc := hidMk hc
    clear hc
    go_enter Try.func22, Try.ntmps22
    go_wp2_with (refine wpList_load_row rfl 30 _ rfl w.heap.size rfl _ (jobC J (.slice a n c)) _ _ b0 Try.underlying30 rfl szJob ?_)
    refine (filed_any J a n c b m d l _ Hn.out hm (Hh.out.up hW) Hm.out hmm (Hl.out.up hW)).mono ?_
    rintro e w1 ⟨he, hb1⟩
    rw [if_pos Hc.out] at he
    subst he
    have hz1 := hb1.size
    simp only [World.size_alloc] at hz1
    have k1 := b1.below hb1 (by simp)
    have hB1 : Below w.heap.size w w1 := hW.trans (hb1.mono (by simp; omega))
    clear hb1 b0 b1 hW
    obtain ⟨T, hT⟩ : ∃ T, afterS J J.tg l = T := ⟨_, rfl⟩
    have HT := hidMk hT
    rw [hT]
    clear hT
    have q1 := k1.alloc (.cells (jobC (J.setTg T) (.slice a n c)) 85)
    go_wp2_with (first | (refine wpList_store_row rfl 85 _ _ rfl w1.heap.size (jobC (J.setTg T) (.slice a n c)) rfl rfl _ _ (Bk.new _ _ _) szWork rfl (oneJob _ _ _ _) ?_; rw [World.setRow_alloc_new]) | refine wpList_store_row rfl 25 _ _ rfl (w.heap.size + 1) (tonC T) rfl rfl _ _ q1 szTongue rfl (oneTon _) ?_)
    refine bodyPost_ret (results_row_tmp Try.results22 _ _ _ _ _ _ rfl rfl (q1.row _) Try.underlying25 szTongue) rfl ⟨?_, below_setRow (hB1.alloc (by omega) _) (by simp) _⟩
    rw [if_pos Hc.out, HT.out]
    rfl
  · have Hc := hidMk hc
    clear hc
    go_enter Try.func22, Try.ntmps22
    go_wp2_with (refine wpList_load_row rfl 30 _ rfl w.heap.size rfl _ (jobC J (.slice a n c)) _ _ b0 Try.underlying30 rfl szJob ?_)
    refine (filed_any J a n c b m d l _ Hn.out hm (Hh.out.up hW) Hm.out hmm (Hl.out.up hW)).mono ?_
    rintro e w1 ⟨he, hb1⟩
    rw [if_neg Hc.out] at he
    subst he
    have hz1 := hb1.size
    simp only [World.size_alloc] at hz1
    have k1 := b1.below hb1 (by simp)
    have hB1 : Below w.heap.size w w1 := hW.trans (hb1.mono (by simp; omega))
    clear hb1 b0 b1 hW
    have q1 := k1.alloc (.cells (jobC zeroJ (.slice none 0 0)) 85)
    go_wp2_with (first | (refine wpList_store_row rfl 85 _ _ rfl w1.heap.size (jobC zeroJ (.slice none 0 0)) rfl rfl _ _ (Bk.new _ _ _) szWork rfl (oneJob _ _ _ _) ?_; rw [World.setRow_alloc_new]) | refine wpList_store_row rfl 25 _ _ rfl (w.heap.size + 1) (tonC zeroJ.tg) rfl rfl _ _ q1 szTongue rfl (oneTon _) ?_)
    refine bodyPost_ret (results_row_tmp Try.results22 _ _ _ _ _ _ rfl rfl (q1.row _) Try.underlying25 szTongue) rfl ⟨?_, below_setRow (hB1.alloc (by omega) _) (by simp) _⟩
    rw [if_neg Hc.out]
    rfl
end Go.Proofs.Ytdficjnnlaicpaa
