/- Part 14 of the proof: Plans, Pots. -/
import Derived.Test.YtbbekjcldbbhiaaU13
import Derived.Test.YtbbekjcldbbhiaaU11
/- The contract of the reference's Plans. -/
namespace Go.Proofs.Ytbbekjcldbbhiaa
set_option linter.all false
open Go.RowKit
theorem infoInt : (Try.prog.info? 3).map (fun i => (i.zero, i.size, i.bytes)) = some (some (.int .i64 0), 1, 8) := by kernel_rfl
theorem infoInts : (Try.prog.info? 31).map (fun i => (i.zero, i.size, i.bytes)) = some (some (.slice none 0 0), 1, 24) := by kernel_rfl
theorem add_i (b off k : Nat) : (⟨b, off, none⟩ : Addr).add k = ⟨b, off + k, none⟩ := by
  unfold Addr.add
  split
  · rename_i hk0; subst hk0; rfl
  · rfl
theorem is_news {W : World} {B : Nat} {ad : Addr} {l : List Int} (h : Is W B (some ad) l) : ∀ j u, (l.map (Value.int .i64))[j]? = some u → W.cell? (ad.add j) = some u := by
  intro j u hj
  rw [List.getElem?_map] at hj
  obtain ⟨x, hx, rfl⟩ := Option.map_eq_some_iff.1 hj
  obtain ⟨b, off, e, _, e0⟩ := h j x hx
  cases e
  rw [add_i]
  exact e0
theorem is_one (l : List Int) : ∀ u ∈ l.map (Value.int .i64), u.oneCell' = true := by
  intro u hu
  obtain ⟨x, _, rfl⟩ := List.mem_map.1 hu
  rfl
theorem news_one {W : World} {g : Nat} {t : TypeId} {x : Value} (h : Bk W g t #[x]) : ∀ j u, [x][j]? = some u → W.cell? ((⟨g, 0, none⟩ : Addr).add j) = some u := by
  intro j u hj
  rw [add_i, Nat.zero_add]
  exact h.at_ j u (by simpa using hj)
theorem Is.grown {w w' : World} {a : Option Addr} {l : List Int} {row : Option Nat} (h : Is w w.heap.size a l) (hg : w.grownBy w' row) (hne : ∀ q off, a = some ⟨q, off, none⟩ → some q ≠ row) : Is w' w'.heap.size a l := fun k n hk => by
  obtain ⟨b, off, e, hb, e0⟩ := h k n hk
  exact ⟨b, off, e, Nat.lt_of_lt_of_le hb hg.size, (World.cell?_of_block (a := ⟨b, off + k, none⟩) (hg.block b hb (hne b off e))).trans e0⟩
/-- All lists of so many strokes, in lexicographic order. -/
def plansL : Nat → List (List Int)
  | 0 => [[]]
  | n + 1 => (plansL n).map (1 :: ·) ++ (plansL n).map (2 :: ·)
theorem plansL_len : ∀ n, (plansL n).length = 2 ^ n
  | 0 => rfl
  | n + 1 => by simp [plansL, plansL_len n]; omega
theorem plansL_each : ∀ n, ∀ l ∈ plansL n, l.length = n
  | 0, l, h => by
    rw [List.mem_singleton.1 h]
    rfl
  | n + 1, l, h => by
    rcases List.mem_append.1 h with h | h <;>
      (obtain ⟨l', h', rfl⟩ := List.mem_map.1 h; simp [plansL_each n l' h'])
/-- A slice of slices reads as a list of lists. -/
def Pl (w : World) (B : Nat) (a : Option Addr) (L : List (List Int)) : Prop :=
  ∀ k l, L[k]? = some l → ∃ b off la lc, a = some ⟨b, off, none⟩ ∧ b < B ∧ w.cell? ⟨b, off + k, none⟩ = some (.slice la l.length lc) ∧ Is w B la l
theorem Pl.up {w w' : World} {a : Option Addr} {L : List (List Int)} (h : Pl w w.heap.size a L) (hb : Below w.heap.size w w') : Pl w' w'.heap.size a L := fun k l hk => by
  obtain ⟨b, off, la, lc, e, hB, h1, h2⟩ := h k l hk
  exact ⟨b, off, la, lc, e, Nat.lt_of_lt_of_le hB hb.size, (hb.cell (p := ⟨b, off + k, none⟩) hB).trans h1, h2.up hb⟩
/-- What has been put together so far: a row of our own, in which each slice reads as its list and lies apart from the row. -/
def Ow (B : Nat) (w : World) (v : Value) (L : List (List Int)) : Prop :=
  ∃ xs, w.ownsRow B 31 1 v L.length xs ∧ ∀ (k : Nat) (l : List Int), L[k]? = some l → ∃ q off c, xs[k]? = some (Value.slice (some ⟨q, off, none⟩) l.length c) ∧ v.ownBlock ≠ some q ∧ q < w.heap.size ∧ Is w w.heap.size (some ⟨q, off, none⟩) l
theorem Ow.nil (B : Nat) (w : World) : Ow B w (.slice none 0 0) [] := ⟨[], World.ownsRow_nil _ _ _ _, fun k l h => by simp at h⟩
/-- Kept by what changes neither the row nor what lay there. -/
theorem Ow.kept {B : Nat} {w w' : World} {v : Value} {L : List (List Int)} {row : Option Nat} (h : Ow B w v L) (hg : w.grownBy w' row) (hr : ∀ g, row = some g → w.heap.size ≤ g) : Ow B w' v L := by
  obtain ⟨xs, own, hx⟩ := h
  refine ⟨xs, own.kept hg ?_, fun k l hk => ?_⟩
  · cases hv : v.ownBlock with
    | none => exact .inl rfl
    | some g =>
      refine .inr fun e => ?_
      have h1 := own.lt g hv
      have h2 := hr g e.symm
      omega
  · obtain ⟨q, off, c, e, h1, h2, h3⟩ := hx k l hk
    refine ⟨q, off, c, e, h1, Nat.lt_of_lt_of_le h2 hg.size, h3.grown hg fun q' off' e' e2 => ?_⟩
    cases e'
    have := hr q e2.symm
    omega
theorem Ow.alloc {B : Nat} {w : World} {v : Value} {L : List (List Int)} (h : Ow B w v L) (o : Obj) : Ow B (w.alloc o) v L :=
  h.kept (World.grownBy_alloc w o none) (fun g e => by cases e)
/-- One list more. -/
theorem Ow.snoc {B : Nat} {w w' : World} {v v' : Value} {L : List (List Int)} {xs : List Value} {l : List Int} {q off c : Nat} (h : Ow B w v L) (hx : ∃ ys, w.ownsRow B 31 1 v L.length ys ∧ ys = xs)
    (own' : w'.ownsRow B 31 1 v' (L.length + 1) (xs ++ [.slice (some ⟨q, off, none⟩) l.length c])) (hg : w.grownBy w' v.ownBlock) (hat : v'.ownBlock = v.ownBlock ∨ ∃ g, v'.ownBlock = some g ∧ w.heap.size ≤ g)
    (hq : v.ownBlock ≠ some q) (hqs : q < w.heap.size) (hl : Is w w.heap.size (some ⟨q, off, none⟩) l) : Ow B w' v' (L ++ [l]) := by
  obtain ⟨xs2, own2, hx2⟩ := h
  obtain ⟨ys, owny, rfl⟩ := hx
  have e : xs2 = ys := by
    rcases own2.2 with ⟨h1, h2⟩ | ⟨g, cap, cur, h1, _, h3, _, _, _, h4⟩
    · have a1 := own2.1
      have a2 := owny.1
      rw [h2] at a1 a2
      rw [List.length_eq_zero_iff.1 (by omega : xs2.length = 0), List.length_eq_zero_iff.1 (by omega : ys.length = 0)]
    · rcases owny.2 with ⟨k1, k2⟩ | ⟨g', cap', cur', k1, _, k3, _, _, _, k4⟩
      · rw [h1] at k1; cases k1
      · rw [h1] at k1
        cases k1
        rw [h3] at k3
        cases k3
        rw [← h4, ← k4]
  subst e
  have ap : ∀ q', v.ownBlock ≠ some q' → q' < w.heap.size → v'.ownBlock ≠ some q' := fun q' h1 h2 h3 => by
    rcases hat with h | ⟨g, h, hge⟩
    · exact h1 (h ▸ h3)
    · rw [h] at h3
      cases h3
      omega
  have lenx : xs2.length = L.length := by have := own2.1; omega
  refine ⟨xs2 ++ [.slice (some ⟨q, off, none⟩) l.length c], by simpa using own', fun k l' hk => ?_⟩
  by_cases hkl : k < L.length
  · rw [List.getElem?_append_left hkl] at hk
    obtain ⟨q', off', c', e, h1, h2, h3⟩ := hx2 k l' hk
    exact ⟨q', off', c', by rw [List.getElem?_append_left (by omega)]; exact e, ap q' h1 h2, Nat.lt_of_lt_of_le h2 hg.size, h3.grown hg fun q2 off2 e2 e3 => by cases e2; exact h1 e3.symm⟩
  · have hk0 : k = L.length := by
      have := (List.getElem?_eq_some_iff.1 hk).1
      simp at this
      omega
    subst hk0
    have el : l' = l := by simpa using hk.symm
    subst el
    exact ⟨q, off, c, by rw [List.getElem?_append_right (by omega)]; simp [lenx], ap q hq hqs, Nat.lt_of_lt_of_le hqs hg.size, hl.grown hg fun q2 off2 e2 e3 => by cases e2; exact hq e3.symm⟩
theorem Ow.pl {B : Nat} {w : World} {v : Value} {L : List (List Int)} (h : Ow B w v L) : ∃ a c, v = .slice a L.length c ∧ Pl w w.heap.size a L := by
  obtain ⟨xs, own, hx⟩ := h
  rcases own.2 with ⟨rfl, h0⟩ | ⟨g, cap, cur, rfl, hb, hg, hnc, hcm, hcs, htk⟩
  · exact ⟨none, 0, by rw [h0], fun k l hk => by
      have := (List.getElem?_eq_some_iff.1 hk).1
      omega⟩
  · refine ⟨some ⟨g, 0, none⟩, cap, rfl, fun k l hk => ?_⟩
    obtain ⟨q, off, c, e, h1, h2, h3⟩ := hx k l hk
    have hkl := (List.getElem?_eq_some_iff.1 hk).1
    refine ⟨g, 0, some ⟨q, off, none⟩, c, rfl, (Array.getElem?_eq_some_iff.1 hg).1, ?_, h3⟩
    rw [cell_of_row w g (0 + k) cur _ (0, 0) hg, Nat.zero_add, ← Array.getElem?_toList]
    rw [← htk, List.getElem?_take_of_lt (by omega)] at e
    exact e
theorem map_snoc (x : Int) (l : List (List Int)) (k : Nat) (h : k < l.length) : (l.take (k + 1)).map (x :: ·) = (l.take k).map (x :: ·) ++ [x :: l[k]] := by
  rw [take_snoc l k h, List.map_append]
  rfl
/-- What stands after some rounds: those lists that begin with a lesser stroke, and some that begin with this one. -/
def madeL (L : List (List Int)) (kind k : Nat) : List (List Int) := (if 1 < kind then L.map (1 :: ·) else []) ++ (if 2 < kind then L.map (2 :: ·) else []) ++ (L.take k).map ((kind : Int) :: ·)
theorem madeL_step (L : List (List Int)) (kind k : Nat) (h : k < L.length) : madeL L kind (k + 1) = madeL L kind k ++ [(kind : Int) :: L[k]] := by
  unfold madeL
  rw [map_snoc _ _ _ h, ← List.append_assoc]
theorem madeL_next (L : List (List Int)) (kind : Nat) (h : 1 ≤ kind ∧ kind ≤ 2) : madeL L kind L.length = madeL L (kind + 1) 0 := by
  rcases (by omega : kind = 1 ∨ kind = 2) with rfl | rfl <;> simp [madeL]
theorem madeL_end (n : Nat) : madeL (plansL n) 3 0 = plansL (n + 1) := by simp [madeL, plansL]
theorem madeL_0 (L : List (List Int)) : madeL L 1 0 = [] := by simp [madeL]
theorem madeL_len (L : List (List Int)) (kind k : Nat) : (madeL L kind k).length ≤ 3 * L.length := by
  unfold madeL
  simp only [List.length_append, List.length_map, List.length_take]
  split <;> split <;> simp <;> omega
theorem grow_alloc {w w3 : World} {o : Obj} {row : Option Nat} (hg : (w.alloc o).grownBy w3 row) : w.grownBy w3 row :=
  ⟨hg.os, hg.tape, hg.output, Nat.le_trans (by simp) hg.size, fun k hk hne => (hg.block k (by simp; omega) hne).trans (Below.heap_alloc w o k hk)⟩
theorem list_of_own {w : World} {B n : Nat} {v : Value} {x : Int} {l : List Int} (h : w.ownsRow B 3 1 v n ([Value.int .i64 x] ++ l.map (Value.int .i64))) : ∃ q c, v = .slice (some ⟨q, 0, none⟩) (l.length + 1) c ∧ B ≤ q ∧ q < w.heap.size ∧ Is w w.heap.size (some ⟨q, 0, none⟩) (x :: l) := by
  have hl := h.1
  simp only [List.length_append, List.length_map, List.length_singleton] at hl
  rcases h.2 with ⟨rfl, h0⟩ | ⟨g, cap, cur, rfl, hb, hg, hnc, hcm, hcs, htk⟩
  · omega
  · have hn : n = l.length + 1 := by omega
    subst hn
    refine ⟨g, cap, rfl, hb, (Array.getElem?_eq_some_iff.1 hg).1, fun k y hk => ⟨g, 0, rfl, (Array.getElem?_eq_some_iff.1 hg).1, ?_⟩⟩
    have hkl := (List.getElem?_eq_some_iff.1 hk).1
    simp only [List.length_cons] at hkl
    rw [cell_of_row w g (0 + k) cur _ (0, 0) hg, Nat.zero_add, ← Array.getElem?_toList]
    have h1 : (cur.toList.take ((l.length + 1) * 1))[k]? = some (.int .i64 y) := by
      rw [htk]
      have : [Value.int .i64 x] ++ l.map (Value.int .i64) = (x :: l).map (Value.int .i64) := rfl
      rw [this, List.getElem?_map, hk]
      rfl
    rw [List.getElem?_take_of_lt (by omega)] at h1
    exact h1
set_option maxHeartbeats 4000000 in
set_option maxRecDepth 100000 in
theorem plans_step (m : Nat) (hm : m + 1 ≤ 6) (ih : ∀ w, Calls Try.prog 14 #[.int .i64 (m : Int)] w fun e w' => ∃ a c, e = .returned (.slice a (plansL m).length c) ∧ Pl w' w'.heap.size a (plansL m) ∧ Below w.heap.size w w') (w : World) :
    Calls Try.prog 14 #[.int .i64 ((m : Int) + 1)] w fun e w' => ∃ a c, e = .returned (.slice a (plansL (m + 1)).length c) ∧ Pl w' w'.heap.size a (plansL (m + 1)) ∧ Below w.heap.size w w' := by
  obtain ⟨i0, hi, hz0, hz1, hz2⟩ := info_parts infoInt
  have Hi : Hid (Try.prog.info? 3 = some i0) := hi
  have Hz0 := hidMk hz0
  have Hz1 := hidMk hz1
  have Hz2 := hidMk hz2
  clear hi hz0 hz1 hz2
  obtain ⟨i1, gi, gz0, gz1, gz2⟩ := info_parts infoInts
  have Gi : Hid (Try.prog.info? 31 = some i1) := gi
  have Gz0 := hidMk gz0
  have Gz1 := hidMk gz1
  have Gz2 := hidMk gz2
  clear gi gz0 gz1 gz2
  have hne : ((m : Int) + 1 == 0) = false := by rw [beq_eq_false_iff_ne]; omega
  have hw1 : IntKind.i64.wrap ((m : Int) + 1 - 1) = (m : Int) := by rw [IntWalk.i64_in _ (by omega)]; omega
  have IH := hidMk ih
  clear ih
  go_enter Try.func14, Try.ntmps14
  go_wp2_with fail
  refine (IH.out _).mono ?_
  rintro e w1 ⟨ra, rc, rfl, hpl, hB1⟩
  obtain ⟨L, HLe⟩ : ∃ L, Hid (L = plansL m) := ⟨_, hidMk rfl⟩
  obtain ⟨N, HN⟩ : ∃ N, Hid (N = L.length) := ⟨_, hidMk rfl⟩
  have HP : Hid (Pl w1 w1.heap.size ra L) := by show Pl w1 w1.heap.size ra L; rw [HLe.out]; exact hpl
  have hLN : (plansL m).length = N := by rw [HN.out, HLe.out]
  have hN64 : N ≤ 32 := by rw [← hLN, plansL_len]; exact Nat.pow_le_pow_right (by decide) (by omega : m ≤ 5)
  rw [hLN]
  have HB1 := hidMk hB1
  clear hpl hB1 IH
  go_wp2_with fail
  go_loopw [3, 5] (fun v kd wr => ∃ (kind : Nat), (1 ≤ kind ∧ kind ≤ 3) ∧ kd = .int .i64 kind ∧ Hid (Ow w1.heap.size wr v (madeL L kind 0)) ∧ Below w1.heap.size w1 wr) (fun _ kd _ => 3 - (intOf kd).toNat)
  case atStart => exact ⟨1, ⟨by decide, by decide⟩, rfl, hidMk (by rw [madeL_0]; exact Ow.nil _ _), Below.refl _ _⟩
  case round =>
    obtain ⟨kind, ⟨hk1, hk3⟩, rfl, HO, hB⟩ := hrel
    by_cases hk2i : (kind : Int) ≤ 2
    · have hk2 : kind ≤ 2 := by omega
      go_wp2_with fail
      go_loopw [3, 6] (fun v i wi => ∃ (k : Nat), k ≤ N ∧ i = .int .i64 k ∧ Hid (Ow w1.heap.size wi v (madeL L kind k)) ∧ Below w1.heap.size w1 wi) (fun _ i _ => N - (intOf i).toNat)
      case atStart => exact ⟨0, Nat.zero_le _, rfl, HO, hB⟩
      case round =>
        clear HO hB
        obtain ⟨k, hkN, rfl, HO, hB⟩ := hrel
        by_cases hlt : k < N
        · have hkL : k < L.length := by rw [← HN.out]; exact hlt
          obtain ⟨b, off, la, lc, rfl, hb, hcell, his⟩ := HP.out k L[k] (List.getElem?_eq_getElem hkL)
          obtain ⟨l, Hl⟩ : ∃ l, Hid (l = L[k]) := ⟨_, hidMk rfl⟩
          rw [← Hl.out] at hcell his
          obtain ⟨n, Hn⟩ : ∃ n, Hid (n = l.length) := ⟨_, hidMk rfl⟩
          rw [← Hn.out] at hcell
          have hs2 := hB.size
          have hcw := (hB.cell (p := ⟨b, off + k, none⟩) hb).trans hcell
          have hbw : b < wr.heap.size := by omega
          have hcw2 : (wr.alloc (.cells #[.int .i64 kind] 3)).cell? ⟨b, off + k, none⟩ = some (.slice la n lc) := (World.cell?_alloc_lt wr _ ⟨b, off + k, none⟩ hbw).trans hcw
          have HIS := hidMk (his.up hB)
          obtain ⟨M, HM⟩ : ∃ M, Hid (M = madeL L kind k) := ⟨_, hidMk rfl⟩
          have HOM : Hid (Ow w1.heap.size wr u3 M) := by show Ow w1.heap.size wr u3 M; rw [HM.out]; exact HO.out
          have hMl : M.length ≤ 96 := by have := madeL_len L kind k; rw [← HM.out, ← HN.out] at this; omega
          have hml : l ∈ L := by rw [Hl.out]; exact List.getElem_mem hkL
          have hnl : n ≤ 1000 := by
            rw [HLe.out] at hml
            rw [Hn.out, plansL_each m l hml]
            omega
          have hki : (k : Int) < (N : Int) := by omega
          have hk0 : (0 : Int) ≤ (k : Int) := by omega
          have hMk : Hid (madeL L kind (k + 1) = M ++ [(kind : Int) :: l]) := by show _ = _; rw [madeL_step L kind k hkL, ← HM.out, ← Hl.out]
          clear HO his hcell hcw
          have own0 : (wr.alloc (.cells #[.int .i64 kind] 3)).ownsRow wr.heap.size 3 1 (.slice (some ⟨wr.heap.size, 0, none⟩) 1 1) 1 [.int .i64 kind] :=
            ⟨rfl, .inr ⟨wr.heap.size, 1, #[.int .i64 kind], rfl, Nat.le_refl _, Bk.new _ _ _, Nat.le_refl _, by decide, rfl, rfl⟩⟩
          have Ho := hidMk own0
          clear own0
          have al := (Below.refl wr.heap.size wr).alloc (Nat.le_refl _) (.cells #[.int .i64 kind] 3)
          have AL := hidMk al
          clear al
          cases la with
          | none =>
            have hn0 : n = 0 := by
              rw [Hn.out]
              cases l with
              | nil => rfl
              | cons x l =>
                obtain ⟨_, _, e, _⟩ := HIS.out 0 x rfl
                cases e
            subst hn0
            have hl0 : l = [] := List.length_eq_zero_iff.1 Hn.out.symm
            have HL0 := hidMk hl0
            clear hl0
            have HO3 := hidMk (HOM.out.alloc (.cells #[.int .i64 kind] 3))
            have hap : Hid (u3.ownBlock ≠ some wr.heap.size) := fun h => by
              obtain ⟨ys, own, _⟩ := HOM.out
              exact Nat.lt_irrefl _ (own.lt _ h).2
            have HI3 : Hid (Is (wr.alloc (.cells #[.int .i64 kind] 3)) (wr.alloc (.cells #[.int .i64 kind] 3)).heap.size (some ⟨wr.heap.size, 0, none⟩) ((kind : Int) :: l)) := by
              show Is _ _ _ _
              rw [HL0.out]
              exact Is.of_bk [(kind : Int)] (Bk.new _ _ _) (by simp)
            go_wp2_with (obtain ⟨xs3, own3, hx3⟩ := (HO3.out.alloc (.cells #[.slice (some ⟨wr.heap.size, 0, none⟩) 1 1] 31)); at_builtin; refine wpList_append_own_at _ rfl (.tmp 23) (.tmp 31) 45 rfl w1.heap.size 31 i1 (.slice none 0 0) 1 24 Try.underlying45 Gi.out Gz0.out Gz1.out Gz2.out rfl (by decide) _ M.length xs3 rfl own3 ⟨wr.heap.size + 1, 0, none⟩ 1 1 [.slice (some ⟨wr.heap.size, 0, none⟩) 1 1] rfl rfl (news_one (Bk.newAt _ _ _ _ (by simp))) (by simp [Value.oneCell']) (by unfold maxLen; omega) (by omega) (by simp; omega) ?_; intro v5 w5 own5 hg5 _ at5; have X5 := hidMk own3; have O5 := hidMk own5; have G5 := hidMk hg5; have A5 := hidMk at5; clear hx3 own3 own5 hg5 at5)
            go_roundw
            case rel =>
              refine ⟨k + 1, by omega, by go_num, ?_, ?_⟩
              · show Ow _ _ _ _
                rw [hMk.out]
                refine Ow.snoc (l := (kind : Int) :: l) (HO3.out.alloc _) ⟨_, X5.out, rfl⟩ (by rw [HL0.out]; exact O5.out) G5.out (A5.out.imp id fun h => ⟨_, h, Nat.le_refl _⟩) hap.out (by simp; omega) ?_
                exact HI3.out.up ((Below.refl _ _).alloc (Nat.le_refl _) _)
              · refine (hB.trans ((AL.out.mono hs2).alloc (by simp; omega) _)).grown G5.out (by simp; omega) (fun g e => (X5.out.lt g e).1)
            case measure => simp [intOf]; omega
          | some ad =>
            go_wp2_with (first
              | (at_builtin; refine wpList_append_own_at _ rfl (.tmp 25) (.tmp 29) 31 rfl wr.heap.size 3 i0 (.int .i64 0) 1 8 Try.underlying31 Hi.out Hz0.out Hz1.out Hz2.out rfl (by decide) _ 1 [.int .i64 kind] rfl Ho.out ad n lc (l.map (Value.int .i64)) rfl (by rw [List.length_map, Hn.out]; omega) (is_news (HIS.out.up AL.out)) (is_one l) (by unfold maxLen; omega) (by omega) (by simp) ?_; intro v3 w3 own3' hg3 _ at3; obtain ⟨q, qc, rfl, hq1, hq2, hq3⟩ := list_of_own own3'; have HI3 := hidMk hq3; have G3 := hidMk hg3; have HO3 := hidMk (HOM.out.kept (grow_alloc hg3) (fun g e => by cases e; exact Nat.le_refl _)); have hz3 := hg3.size; simp only [World.size_alloc] at hz3; clear own3' hg3 at3 hq3)
              | (obtain ⟨xs3, own3, hx3⟩ := (HO3.out.alloc (.cells #[.slice (some ⟨q, 0, none⟩) (l.length + 1) qc] 31)); at_builtin; refine wpList_append_own_at _ rfl (.tmp 23) (.tmp 31) 45 rfl w1.heap.size 31 i1 (.slice none 0 0) 1 24 Try.underlying45 Gi.out Gz0.out Gz1.out Gz2.out rfl (by decide) _ M.length xs3 rfl own3 ⟨w3.heap.size, 0, none⟩ 1 1 [.slice (some ⟨q, 0, none⟩) (l.length + 1) qc] rfl rfl (news_one (Bk.new _ _ _)) (by simp [Value.oneCell']) (by unfold maxLen; omega) (by omega) (by simp; omega) ?_; intro v5 w5 own5 hg5 _ at5; have X5 := hidMk own3; have O5 := hidMk own5; have G5 := hidMk hg5; have A5 := hidMk at5; clear hx3 own3 own5 hg5 at5))
            go_roundw
            case rel =>
              refine ⟨k + 1, by omega, by go_num, ?_, ?_⟩
              · show Ow _ _ _ _
                rw [hMk.out]
                refine Ow.snoc (l := (kind : Int) :: l) (HO3.out.alloc _) ⟨_, X5.out, rfl⟩ O5.out G5.out (A5.out.imp id fun h => ⟨_, h, Nat.le_refl _⟩) (fun h => ?_) (by simp; omega) ?_
                · obtain ⟨ys, own, _⟩ := HOM.out
                  have := (own.lt _ h).2
                  omega
                · exact HI3.out.up ((Below.refl _ _).alloc (Nat.le_refl _) _)
              · exact ((((hB.trans (AL.out.mono hs2)).grown G3.out (by simp; omega) (fun g e => by cases e; omega)).alloc (by omega) _).grown G5.out (by simp; omega) (fun g e => (X5.out.lt g e).1))
            case measure => simp [intOf]; omega
        · obtain rfl : k = N := by omega
          go_wp2_with fail
          go_roundw
          case rel => exact ⟨kind + 1, ⟨by omega, by omega⟩, by go_num, hidMk (by have := HO.out; rw [HN.out, madeL_next L kind ⟨hk1, hk2⟩] at this; exact this), hB⟩
          case measure => simp [intOf]; omega
    · obtain rfl : kind = 3 := by omega
      have h3 := HO.out
      rw [HLe.out, madeL_end] at h3
      obtain ⟨oa, oc, rfl, hp⟩ := h3.pl
      have HPP := hidMk hp
      clear hp h3 HO
      go_wp2_with fail
      go_ret
      exact ⟨oa, ⟨oc, rfl⟩, HPP.out, HB1.out.trans (hB.mono HB1.out.size)⟩
set_option maxHeartbeats 1000000 in
theorem plans_0 (w : World) : Calls Try.prog 14 #[.int .i64 0] w fun e w' => ∃ a c, e = .returned (.slice a (plansL 0).length c) ∧ Pl w' w'.heap.size a (plansL 0) ∧ Below w.heap.size w w' := by
  go_enter Try.func14, Try.ntmps14
  go_wp2
  go_ret
  refine ⟨some ⟨w.heap.size, 0, none⟩, 1, rfl, fun k l hk => ?_, (Below.refl _ _).alloc (Nat.le_refl _) _⟩
  match k, hk with
  | 0, hk =>
    obtain rfl : ([] : List Int) = l := by simpa [plansL] using hk
    exact ⟨w.heap.size, 0, none, 0, rfl, by simp, (Bk.new w _ _).at_ 0 _ rfl, Is.nil _ _ _⟩
theorem plans_any : ∀ m : Nat, m ≤ 6 → ∀ w, Calls Try.prog 14 #[.int .i64 (m : Int)] w fun e w' => ∃ a c, e = .returned (.slice a (plansL m).length c) ∧ Pl w' w'.heap.size a (plansL m) ∧ Below w.heap.size w w'
  | 0, _, w => plans_0 w
  | m + 1, hm, w => plans_step m hm (plans_any m (by omega)) w
end Go.Proofs.Ytbbekjcldbbhiaa
/- The contract of NewPot: a new block with one number; nothing else is changed. -/
namespace Go.Proofs.Ytbbekjcldbbhiaa
set_option linter.all false
open Go.RowKit
set_option maxHeartbeats 1000000 in
theorem newPot_any (a : Option Addr) (n c : Nat) (l : List Int) (w : World) (hn : n = l.length) (hm : n ≤ 9223372036854775807) (h : Is w w.heap.size a l) :
    Calls Try.prog 6 #[.slice a n c] w fun e w' => ∃ s t, e = .returned (.pointer (some ⟨w.heap.size, 0, none⟩)) ∧ Bk w' w.heap.size t #[.int .u64 s] ∧ Below w.heap.size w w' := by
  have Hn : Hid (n = l.length) := hn
  have Hh : Hid (Is w w.heap.size a l) := h
  clear hn h
  go_enter Try.func6, Try.ntmps6
  go_wp2
  go_loopw [4] (fun i wr => ∃ (k : Nat) (s : Int) (t : TypeId), k ≤ n ∧ i = .int .i64 k ∧ Bk wr w.heap.size t #[.int .u64 s] ∧ Below w.heap.size w wr) (fun i _ => n - (intOf i).toNat)
  case atStart => exact ⟨0, _, _, Nat.zero_le _, rfl, Bk.new w _ _, (Below.refl _ _).alloc (Nat.le_refl _) _⟩
  case round =>
    obtain ⟨k, s, t, hk, rfl, hb, hB⟩ := hrel
    have c0 := hb.at_ 0 _ rfl
    have f0 := hb.free 0
    have hl := hb.lt
    by_cases hlt : k < n
    · have hkl : k < l.length := by rw [← Hn.out]; exact hlt
      obtain ⟨b, off, rfl, hbl, e0⟩ := Hh.out k l[k] (List.getElem?_eq_getElem hkl)
      replace e0 := (hB.cell (p := ⟨b, off + k, none⟩) hbl).trans e0
      obtain ⟨x, hx⟩ : ∃ x, l[k] = x := ⟨_, rfl⟩
      rw [hx] at e0
      have hne : b ≠ w.heap.size := by omega
      have hne' : w.heap.size ≠ b := by omega
      have i0 : (0 : Int) ≤ ↑k := by omega
      have i1 : (↑k : Int) < ↑n := by omega
      have HB := hidMk hB
      have Hb := hidMk hb
      clear hB hb hx hbl Hh Hn hkl
      go_wp2
      go_region
      clear e0 hne hne'
      obtain ⟨s1, hs1⟩ : ∃ s1, IntKind.u64.wrap (bits BinOp.xor IntKind.u64 s (IntKind.u64.wrap x) * 15485907386658061715) = s1 := ⟨_, rfl⟩
      rw [hs1]
      clear hs1
      go_wp2
      go_region
      go_wp2
      go_roundw
      case rel =>
        exact ⟨k + 1, _, t, by omega, by go_num, ((Hb.out.put1 _).put1 _), ((HB.out.setCell (Nat.le_refl _) _).setCell (Nat.le_refl _) _).drew.drew⟩
      case measure => simp [intOf]; omega
    · obtain rfl : k = n := by omega
      go_wp2
      go_ret
      exact ⟨s, t, rfl, hb, hB⟩
end Go.Proofs.Ytbbekjcldbbhiaa
