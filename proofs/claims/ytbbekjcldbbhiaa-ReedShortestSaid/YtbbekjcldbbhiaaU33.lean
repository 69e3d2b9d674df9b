/- Part 33 of the proof: RefN, Few. -/
import Derived.Deep.WholeRow
import Derived.Test.YtbbekjcldbbhiaaU32
import Derived.Test.YtbbekjcldbbhiaaU29
import Derived.Test.YtbbekjcldbbhiaaU14
import Derived.Test.YtbbekjcldbbhiaaU31
import Derived.Test.YtbbekjcldbbhiaaU27
import Derived.Test.YtbbekjcldbbhiaaU12
/- The contract of the reference's fine. -/
namespace Go.Proofs.Ytbbekjcldbbhiaa
set_option linter.all false
open Go.RowKit
def FS (w w' : World) (g : Nat) (J : Jb) (s : Value) (t : Tg) : Prop := Below w.heap.size w w' ∧ Bk w' w.heap.size 30 (jobC J s) ∧ Bk w' g 25 #[.int .i64 t.p1, .int .i64 t.p2, .int .i64 t.t1, .int .i64 t.t2, .int .i64 t.r1, .int .i64 t.r2]
theorem FS.drew {w w' : World} {g : Nat} {J : Jb} {s : Value} {t : Tg} (h : FS w w' g J s t) : FS w w'.drew g J s t := ⟨h.1.drew, h.2.1.drew, h.2.2.drew⟩
set_option maxHeartbeats 2000000 in
set_option maxRecDepth 100000 in
theorem refFine_any (J : Jb) (a : Option Addr) (n c : Nat) (b : Option Addr) (m d : Nat) (l : List Int) (w : World) (hI : J.In 200) (hn : n = J.sh.length) (h : Rg w w.heap.size a J.sh) (hmn : m = l.length) (hm6 : m ≤ 6) (hk : ∀ x ∈ l, x = 1 ∨ x = 2) (hl : Is w w.heap.size b l) :
    Calls Try.prog 33 #[.agg (jobC J (.slice a n c)), .slice b m d] w fun e w' => e = .returned (.int .i64 (fineI J (afterS J J.tg l))) ∧ Below w.heap.size w w' := by
  have Hn := hidMk hn
  have Hh := hidMk h
  have Hm := hidMk hmn
  have Hl := hidMk hl
  clear hn h hmn hl
  have HIN := hidMk hI
  have hkd := hidMk hk
  clear hI hk
  have b0 := Bk.new w 30 (jobC J (.slice a n c))
  have hW : Below w.heap.size w (w.alloc (.cells (jobC J (.slice a n c)) 30)) := (Below.refl _ _).alloc (Nat.le_refl _) _
  go_enter Try.func33, Try.ntmps33
  go_wp2_with (refine wpList_load_row rfl 30 _ rfl w.heap.size rfl _ (jobC J (.slice a n c)) _ _ b0 Try.underlying30 rfl szJob ?_)
  refine (refAfter_any J a n c b m d l _ HIN.out Hm.out hm6 hkd.out (Hl.out.up hW)).mono ?_
  rintro e w1 ⟨rfl, hb⟩
  obtain ⟨t, ht⟩ : ∃ t, t = afterS J J.tg l := ⟨_, rfl⟩
  have HT : Hid (t.In 1000) := by
    show t.In 1000
    have h1 := afterS_in J (HIN.out.mono (by decide)) l J.tg 200 HIN.out.tg
    rw [ht]
    refine h1.mono ?_
    have := Hm.out
    omega
  rw [← ht]
  have HTT := hidMk ht
  clear ht
  have hB1 := hW.trans (hb.mono hW.size)
  have k0 := b0.below hb b0.lt
  have hz := k0.lt
  clear hb b0 hW
  unfold tgV
  go_wp2_with fail
  have hS : FS w (w1.alloc (.cells #[.int .i64 t.p1, .int .i64 t.p2, .int .i64 t.t1, .int .i64 t.t2, .int .i64 t.r1, .int .i64 t.r2] 25)) w1.heap.size J (.slice a n c) t := ⟨hB1.alloc (by omega) _, k0.alloc _, Bk.new _ _ _⟩
  generalize w1.alloc (.cells #[.int .i64 t.p1, .int .i64 t.p2, .int .i64 t.t1, .int .i64 t.t2, .int .i64 t.r1, .int .i64 t.r2] 25) = w2 at hS ⊢
  generalize hg : w1.heap.size = g at hS ⊢
  clear hg hB1 k0 hz w1
  obtain ⟨P, hP⟩ : ∃ P, passI J.wi J.sh t.p1 t.p2 = P := ⟨_, rfl⟩
  obtain ⟨Q, hQ⟩ : ∃ Q, spoilI J.le t = Q := ⟨_, rfl⟩
  have HF : Hid (fineI J t = if P = 1 ∧ Q = 2 then 1 else if P = 2 ∨ Q = 1 then 2 else 3) := by show _ = _; unfold fineI; rw [hP, hQ]
  have HP := hidMk hP
  have HQ := hidMk hQ
  clear hP hQ
  refine region_via (R := fun a_ e a' w' => e = .normal ∧ ∃ (v11 v12 v13 v14 v15 v16 v17 v18 : Value), a' = ((((((((((a_.put (some 11) v11).put (some 12) v12).put (some 13) v13).put (some 14) v14).put (some 15) v15).put (some 16) v16).put (some 17) v17).put (some 18) v18).put (some 6) (.int .i64 P)).put (some 7) (.int .i64 Q)) ∧ FS w w' g J (.slice a n c) t) ?_ ?_
  rotate_left
  · rintro e a' w' ⟨rfl, v11, v12, v13, v14, v15, v16, v17, v18, rfl, hs'⟩
    simp only [Act.put, aT, aZ, aS]
    have HS' := hidMk hs'
    clear hS hs'
    cases hb1 : (P == 1) <;> cases hb2 : (P == 2) <;> cases hb3 : (Q == 2) <;> cases hb4 : (Q == 1) <;>
      (go_wp2_with fail; go_ret; exact ⟨ret_i (by rw [← HTT.out, HF.out]; simp only [← @beq_iff_eq Int, hb1, hb2, hb3, hb4]; rfl), HS'.out.1⟩)
  refine wp_region_held_drew (S := fun w' => FS w w' g J (.slice a n c) t) (by kernel_rfl) hS.drew (fun hS0 => ?_)
  generalize hWd : w2.drew = wd at hS0 ⊢
  clear hWd hS
  refine wpAnyH_take (i := 0) (oi := ⟨some 11, .load 30 (.tmp 2), 30, "stroke.go:84", #[], none⟩) rfl (by kernel_rfl) (by kernel_rfl) (by kernel_rfl) (fun _ _ _ h => by cases h.1) (yields_row (by rfl) 30 _ rfl w.heap.size (jobC J (.slice a n c)) rfl 30 (fun w hw => hw.2.1) Try.underlying30 szJob) (by assumption) ?_
  (try simp only [Act.put, aT, aZ, aS])
  refine wpAnyH_take (i := 1) (oi := ⟨some 12, .fieldAddr 25 (.tmp 5) 0, 0, "stroke.go:84", #[], none⟩) (v := ?_) rfl (by kernel_rfl) (by kernel_rfl) (by kernel_rfl) (fun _ _ _ h => by cases h.1) (.inl ⟨by rfl, ?_⟩) (by assumption) ?_
  rotate_left
  · (intro w' hSw; (try dsimp only at hSw); skip; go_simp <;> with_reducible rfl)
  (try simp only [Act.put, aT, aZ, aS])
  refine wpAnyH_take (i := 2) (oi := ⟨some 13, .load 23 (.tmp 12), 23, "stroke.go:84", #[⟨1, .data⟩], none⟩) (v := ?_) rfl (by kernel_rfl) (by kernel_rfl) (by kernel_rfl) (fun _ _ _ h => by cases h.1) (.inl ⟨by rfl, ?_⟩) (by assumption) ?_
  rotate_left
  · (intro w' hSw; (try dsimp only at hSw); (have t0 := hSw.2.2.at_ 0 (.int .i64 t.p1) rfl; have t1 := hSw.2.2.at_ 1 (.int .i64 t.p2) rfl); go_simp <;> with_reducible rfl)
  (try simp only [Act.put, aT, aZ, aS])
  refine wpAnyH_take (i := 4) (oi := ⟨some 15, .fieldAddr 30 (.tmp 2) 1, 0, "stroke.go:84", #[], none⟩) (v := ?_) rfl (by kernel_rfl) (by kernel_rfl) (by kernel_rfl) (fun _ _ _ h => by cases h.1) (.inl ⟨by rfl, ?_⟩) (by assumption) ?_
  rotate_left
  · (intro w' hSw; (try dsimp only at hSw); skip; go_simp <;> with_reducible rfl)
  (try simp only [Act.put, aT, aZ, aS])
  refine wpAnyH_take (i := 5) (oi := ⟨some 16, .load 27 (.tmp 15), 27, "stroke.go:84", #[⟨4, .data⟩], none⟩) (v := ?_) rfl (by kernel_rfl) (by kernel_rfl) (by kernel_rfl) (fun _ _ _ h => by cases h.1) (.inl ⟨by rfl, ?_⟩) (by assumption) ?_
  rotate_left
  · (intro w' hSw; (try dsimp only at hSw); (have j6 := hSw.2.1.at_ 6 (.int .i64 J.u1) rfl; have j7 := hSw.2.1.at_ 7 (.int .i64 J.u2) rfl; have j8 := hSw.2.1.at_ 8 (.int .i64 J.d1) rfl; have j9 := hSw.2.1.at_ 9 (.int .i64 J.d2) rfl; have j10 := hSw.2.1.at_ 10 (.int .i64 J.x1) rfl; have j11 := hSw.2.1.at_ 11 (.int .i64 J.x2) rfl; have j12 := hSw.2.1.at_ 12 (.int .i64 J.y1) rfl; have j13 := hSw.2.1.at_ 13 (.int .i64 J.y2) rfl; have j14 := hSw.2.1.at_ 14 (.int .i64 J.le) rfl); go_simp <;> with_reducible rfl)
  (try simp only [Act.put, aT, aZ, aS])
  refine wpAnyH_take (i := 6) (oi := ⟨some 17, .load 25 (.tmp 5), 25, "stroke.go:84", #[], none⟩) (v := ?_) rfl (by kernel_rfl) (by kernel_rfl) (by kernel_rfl) (fun _ _ _ h => by cases h.1) (.inl ⟨by rfl, ?_⟩) (by assumption) ?_
  rotate_left
  · (intro w' hSw; (try dsimp only at hSw); (have t0 := hSw.2.2.at_ 0 (.int .i64 t.p1) rfl; have t1 := hSw.2.2.at_ 1 (.int .i64 t.p2) rfl; have t2 := hSw.2.2.at_ 2 (.int .i64 t.t1) rfl; have t3 := hSw.2.2.at_ 3 (.int .i64 t.t2) rfl; have t4 := hSw.2.2.at_ 4 (.int .i64 t.r1) rfl; have t5 := hSw.2.2.at_ 5 (.int .i64 t.r2) rfl); go_simp <;> with_reducible rfl)
  (try simp only [Act.put, aT, aZ, aS])
  refine wpAnyH_ready (rs := [3]) (by kernel_rfl) (by simp) ?_
  refine AllReadyH.cons (o := ⟨some 14, .call { callee := .value (.func 52), args := #[.tmp 11, .tmp 13], argTypes := #[30, 23] }, 3, "stroke.go:84", #[⟨0, .data⟩, ⟨2, .data⟩], none⟩) rfl (fun K hK => ?_) ?_
  · go_simp
    go_at_call 52
    refine (refPasses0_any J HIN.out a n c t.p1 t.p2 ⟨⟨HT.out.1, HT.out.2.1⟩, HT.out.2.2.1, HT.out.2.2.2.1⟩ _ Hn.out (Hh.out.up hS0.1)).mono ?_
    rintro e w3 ⟨rfl, hb3⟩
    rw [HP.out]
    go_wp2_with fail
    have hS3 : FS w w3 g J (.slice a n c) t := ⟨hS0.1.trans (hb3.mono hS0.1.size), hS0.2.1.below hb3 hS0.2.1.lt, hS0.2.2.below hb3 hS0.2.2.lt⟩
    refine hK.out _ _ hS3 (fun _ => ?_)
    clear hK K
    (try simp only [Act.put, aT, aZ, aS])
    refine wpAnyH_ready (rs := [7]) (by kernel_rfl) (by simp) ?_
    refine AllReadyH.cons (o := ⟨some 18, .call { callee := .value (.func 53), args := #[.tmp 16, .tmp 17], argTypes := #[27, 25] }, 3, "stroke.go:84", #[⟨5, .data⟩, ⟨6, .data⟩, ⟨3, .chain⟩], none⟩) rfl (fun K hK => ?_) ?_
    · go_simp
      go_at_call 53
      refine (refSpoiled_any J t _).mono ?_
      rintro e w7 ⟨rfl, hb7⟩
      rw [HQ.out]
      go_wp2_with fail
      have hS7 : FS w w7 g J (.slice a n c) t := ⟨hS3.1.trans (hb7.mono hS3.1.size), hS3.2.1.below hb7 hS3.2.1.lt, hS3.2.2.below hb7 hS3.2.2.lt⟩
      refine hK.out _ _ hS7 (fun _ => ?_)
      clear hK K
      (try simp only [Act.put, aT, aZ, aS])
      refine wpAnyH_ready (rs := [8]) (by kernel_rfl) (by simp) ?_
      refine AllReadyH.cons (o := ⟨some 6, .assign (.tmp 14), 3, "stroke.go:84", #[⟨3, .data⟩, ⟨7, .chain⟩, ⟨0, .phase⟩, ⟨1, .phase⟩, ⟨2, .phase⟩, ⟨3, .phase⟩, ⟨4, .textOnly .lateStores⟩, ⟨5, .textOnly .lateStores⟩, ⟨6, .textOnly .lateStores⟩, ⟨7, .textOnly .lateStoresUnsure⟩], none⟩) rfl (fun K hK => ?_) ?_
      · go_simp
        refine hK.out _ _ hS7 (fun _ => ?_)
        clear hK K
        (try simp only [Act.put, aT, aZ, aS])
        refine wpAnyH_ready (rs := [9]) (by kernel_rfl) (by simp) ?_
        refine AllReadyH.cons (o := ⟨some 7, .assign (.tmp 18), 3, "stroke.go:84", #[⟨7, .data⟩, ⟨8, .chain⟩, ⟨0, .phase⟩, ⟨1, .phase⟩, ⟨2, .phase⟩, ⟨3, .phase⟩, ⟨4, .phase⟩, ⟨5, .phase⟩, ⟨6, .phase⟩, ⟨7, .phase⟩, ⟨8, .phase⟩], none⟩) rfl (fun K hK => ?_) ?_
        · go_simp
          refine hK.out _ _ hS7 (fun _ => ?_)
          clear hK K
          (try simp only [Act.put, aT, aZ, aS])
          refine wpAnyH_done (by kernel_rfl) ?_ _
          exact ⟨rfl, _, _, _, _, _, _, _, _, rfl, hS7⟩
        exact AllReadyH.nil
      exact AllReadyH.nil
    exact AllReadyH.nil
  exact AllReadyH.nil
end Go.Proofs.Ytbbekjcldbbhiaa
/- The law ReedFewest. -/
namespace Go.Proofs.Ytbbekjcldbbhiaa
set_option linter.all false
open Go.RowKit
noncomputable def sndF : Code → Code
  | .seq _ c => c
  | c => c
def TunOK : Prop := ∀ w : World, Calls Try.prog 5 #[] w fun e w' => e = .returned (.bool true) ∧ Below w.heap.size w w'
/-- What JobOf is known to hand back. -/
def JobP9 (b : Nat) (w : World) (e : Ending) (w' : World) : Prop :=
  ∃ (J : Jb) (a : Option Addr) (n c : Nat), e = .returned (.agg (jobC J (.slice a n c))) ∧ n = J.sh.length ∧ Rg w' w'.heap.size a J.sh ∧ J.check = 0 ∧ PB b w.heap.size w w' ∧ Pt w' b
/-- Whether a tongue is fine after strokes. -/
def fineS (J : Jb) (l : List Int) : Int := fineI J (afterS J J.tg l)
/-- The first list of strokes after which the tongue always is fine: fewer strokes first, then in lexicographic order. -/
def FirstS (J : Jb) (n i : Nat) (l : List Int) : Prop := n ≤ 6 ∧ (plansL n)[i]? = some l ∧ fineS J l = 1 ∧ (∀ n', n' < n → ∀ l' ∈ plansL n', fineS J l' ≠ 1) ∧ ∀ i', i' < i → ∀ l', (plansL n)[i']? = some l' → fineS J l' ≠ 1
def NoneS (J : Jb) : Prop := ∀ n, n ≤ 6 → ∀ l ∈ plansL n, fineS J l ≠ 1
def ShortQ (J : Jb) (w : World) (e : Ending) (w' : World) : Prop :=
  ((∃ n i l a c, FirstS J n i l ∧ e = .returned (.tuple #[.slice a n c, .int .i64 0]) ∧ Is w' w'.heap.size a l) ∨ (NoneS J ∧ e = .returned (.tuple #[.slice none 0 0, .int .i64 11]))) ∧ Below w.heap.size w w'
def ShortOK : Prop := ∀ (J : Jb) (a : Option Addr) (n c : Nat) (w : World), J.check = 0 → n = J.sh.length → n ≤ 9223372036854775807 → Rg w w.heap.size a J.sh → Calls Try.prog 9 #[.agg (jobC J (.slice a n c))] w (ShortQ J w)
/-- What stands in the law's two variables. -/
def SQ (J : Jb) (w : World) (sa : Option Addr) (sn : Nat) (ev : Int) : Prop :=
  (ev = 0 ∧ ∃ i l, FirstS J sn i l ∧ Is w w.heap.size sa l) ∨ (ev = 11 ∧ sn = 0 ∧ NoneS J)
theorem plans_12 : ∀ n, ∀ l ∈ plansL n, ∀ x ∈ l, x = 1 ∨ x = 2
  | 0, l, h, x, hx => by
    rw [List.mem_singleton.1 h] at hx
    cases hx
  | n + 1, l, h, x, hx => by
    rcases List.mem_append.1 h with h | h <;> obtain ⟨l', h', rfl⟩ := List.mem_map.1 h <;> rcases List.mem_cons.1 hx with rfl | hx
    · exact .inl rfl
    · exact plans_12 n l' h' x hx
    · exact .inr rfl
    · exact plans_12 n l' h' x hx
theorem first_sole {J : Jb} {n i k j : Nat} {l p : List Int} (h : FirstS J n i l) (h2 : FirstS J k j p) : n = k ∧ l = p := by
  obtain ⟨h1, h2', h3, h4, h5⟩ := h
  obtain ⟨g1, g2, g3, g4, g5⟩ := h2
  have hm : l ∈ plansL n := List.mem_of_getElem? h2'
  have gm : p ∈ plansL k := List.mem_of_getElem? g2
  have e1 : n = k := by
    rcases Nat.lt_trichotomy n k with h | h | h
    · exact absurd h3 (g4 n h l hm)
    · exact h
    · exact absurd g3 (h4 k h p gm)
  subst e1
  have e2 : i = j := by
    rcases Nat.lt_trichotomy i j with h | h | h
    · exact absurd h3 (g5 i h l h2')
    · exact h
    · exact absurd g3 (h5 j h p g2)
  subst e2
  rw [h2'] at g2
  exact ⟨rfl, by injection g2⟩
end Go.Proofs.Ytbbekjcldbbhiaa
