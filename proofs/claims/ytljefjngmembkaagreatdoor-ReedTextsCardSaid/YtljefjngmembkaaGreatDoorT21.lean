/- Part 21 of the proof: TxU. -/
import Derived.Test.YtljefjngmembkaaGreatDoorT20
import Derived.Test.YtljefjngmembkaaGreatDoorT12
namespace Go.Proofs.YtljefjngmembkaaGreatDoor
set_option linter.all false
open Go.RowKit Go.Lib
def readJ (T : List UInt8) : Jb × Nat × Int :=
  if 300 < T.length then (zeroJb,0,10) else if 0 < (parseJ T).2 then (zeroJb,(parseJ T).2,2) else if (parseJ T).1.check ≠ 0 then (zeroJb,0,(parseJ T).1.check) else ((parseJ T).1,0,0)
def RDQ (T : List UInt8) (w : World) (e : Ending) (w' : World) : Prop := ∃ a c,e = .returned (.tuple #[.agg (jobC (readJ T).1 (.slice a (readJ T).1.sh.length c)),.int .i64 ((readJ T).2.1 : Nat),.int .i64 (readJ T).2.2]) ∧ (readJ T).1.sh.length ≤ c ∧ Rg w' w'.heap.size a (readJ T).1.sh ∧ Below w.heap.size w w'
theorem RDQ.zero {T : List UInt8} {w w' : World} {line : Nat} {e : Int} (h : readJ T = (zeroJb,line,e)) (hb : Below w.heap.size w w') : RDQ T w (.returned (.tuple #[.agg (jobC zeroJb (.slice none 0 0)),.int .i64 line,.int .i64 e])) w' :=
  ⟨none,0,by rw [h]; rfl,by rw [h]; exact Nat.le_refl _,by rw [h]; exact Rg.nil _ _ _,hb⟩
set_option maxHeartbeats 2000000 in
set_option maxRecDepth 1000000 in
theorem read_any (T : ByteArray) (w : World) (hl : LibW w) :
    Calls Tryz.prog 11 #[.string T] w (RDQ T.data.toList w) := by
  have HL := hidMk hl
  have ba : Bk (w.alloc (.cells (jobC zeroJb (.slice none 0 0)) 30)) w.heap.size 30 (jobC zeroJb (.slice none 0 0)) := Bk.new _ _ _
  have HBA := hidMk ba
  have HB0 := hidMk (below0 w (.cells (jobC zeroJb (.slice none 0 0)) 30))
  have ht : T.data.toList.length = T.size := rfl
  clear hl ba
  go_enter Tryz.func11,Tryz.ntmps11
  by_cases h3 : 300 < T.size
  · have h3' : (300 : Int) < (T.size : Int) := by omega
    have HR := hidMk (show readJ T.data.toList = (zeroJb,0,10) by unfold readJ; rw [if_pos (by omega)])
    clear ht
    go_wp2_with (first | (refine wpList_load_row rfl 30 _ rfl w.heap.size rfl _ (jobC zeroJb (.slice none 0 0)) _ _ HBA.out Tryz.underlying30 rfl szJob ?_) | (refine wpList_store_row rfl 30 _ _ rfl w.heap.size (jobC zeroJb (.slice none 0 0)) rfl rfl 30 (jobC zeroJb (.slice none 0 0)) HBA.out szJob rfl (oneJob _ _ _ _) ?_))
    refine bodyPost_ret (results_row_two Tryz.results11 _ _ _ _ _ (.int .i64 0) (.int .i64 10) rfl rfl rfl (HBA.out.row (jobC zeroJb (.slice none 0 0))) Tryz.underlying30 szJob) rfl ?_
    exact RDQ.zero HR.out (below_setRow HB0.out (Nat.le_refl _) _)
  · have h3' : ¬ (300 : Int) < (T.size : Int) := by omega
    have HR := hidMk (show readJ T.data.toList = if 0 < (parseJ T.data.toList).2 then (zeroJb,(parseJ T.data.toList).2,2) else if (parseJ T.data.toList).1.check ≠ 0 then (zeroJb,0,(parseJ T.data.toList).1.check) else ((parseJ T.data.toList).1,0,0) by unfold readJ; rw [if_neg (by omega)])
    clear ht
    go_wp2_with fail
    refine (parse_any T (by omega) _ (HL.out.up HB0.out)).mono ?_
    rintro e w1 ⟨a,c,rfl,hc,hlow,hr,hb1⟩
    obtain ⟨J,hJ⟩ : ∃ x,x = (parseJ T.data.toList).1 := ⟨_,rfl⟩
    obtain ⟨line,hline⟩ : ∃ x,x = (parseJ T.data.toList).2 := ⟨_,rfl⟩
    rw [← hJ,← hline] at HR
    rw [← hJ,← hline]
    rw [← hJ] at hr hc
    obtain ⟨n,hn⟩ : ∃ x,x = J.sh.length := ⟨_,rfl⟩
    rw [← hn] at hc ⊢
    have HN := hidMk hn
    have HCC := hidMk hc
    have HNE := hidMk (show ∀ q o,a = some ⟨q,o,none⟩ → q ≠ w.heap.size from fun q o e => by have := hlow q o e; have := HBA.out.lt; omega)
    have HB1 := hidMk (HB0.out.trans (hb1.mono HB0.out.size))
    have HW1 := hidMk (HBA.out.below hb1 HBA.out.lt)
    have HW2 := hidMk (HW1.out.row (jobC J (.slice a n c)))
    have HB2 := hidMk (below_setRow HB1.out (Nat.le_refl _) (jobC J (.slice a n c)))
    have HRG : Hid (Rg (w1.setRow w.heap.size (jobC J (.slice a n c))) (w1.setRow w.heap.size (jobC J (.slice a n c))).heap.size a J.sh) := hidMk (fun k x hx => by
      obtain ⟨q,o,e,hq,c0,c1⟩ := hr k x hx
      have hl := hlow q o e
      have hl2 := HBA.out.lt
      have hk := setRow_other w1 w.heap.size q (jobC J (.slice a n c)) (by omega)
      exact ⟨q,o,e,Nat.lt_of_lt_of_le hq (below_setRow (Below.refl 0 w1) (Nat.zero_le _) (jobC J (.slice a n c))).size,(World.cell?_of_block hk).trans c0,(World.cell?_of_block hk).trans c1⟩)
    clear hJ hline hr hc hb1 h3 hlow hn
    by_cases hl : 0 < line
    · have hl' : (0 : Int) < (line : Int) := by omega
      have HRE := hidMk (HR.out.trans (if_pos hl))
      clear hl
      go_wp2_with (first | (refine wpList_store_row rfl 30 _ _ rfl w.heap.size (jobC J (.slice a n c)) rfl rfl 30 (jobC zeroJb (.slice none 0 0)) HW1.out szJob rfl (oneJob _ _ _ _) ?_) | (refine wpList_store_row rfl 30 _ _ rfl w.heap.size (jobC zeroJb (.slice none 0 0)) rfl rfl 30 (jobC J (.slice a n c)) HW2.out szJob rfl (oneJob _ _ _ _) ?_))
      refine bodyPost_ret (results_row_two Tryz.results11 _ _ _ _ _ (.int .i64 line) (.int .i64 2) rfl rfl rfl (HW2.out.row (jobC zeroJb (.slice none 0 0))) Tryz.underlying30 szJob) rfl ?_
      exact RDQ.zero HRE.out (below_setRow HB2.out (Nat.le_refl _) _)
    · have hl' : ¬ (0 : Int) < (line : Int) := by omega
      have HRE := hidMk (HR.out.trans (if_neg hl))
      clear hl
      go_wp2_with (first | (refine wpList_store_row rfl 30 _ _ rfl w.heap.size (jobC J (.slice a n c)) rfl rfl 30 (jobC zeroJb (.slice none 0 0)) HW1.out szJob rfl (oneJob _ _ _ _) ?_) | (refine wpList_load_row rfl 30 _ rfl w.heap.size rfl _ (jobC J (.slice a n c)) _ _ HW2.out Tryz.underlying30 rfl szJob ?_))
      refine (check_any J a n c _ HN.out (by have := HCC.out; omega) HRG.out).mono ?_
      rintro e w2 ⟨rfl,hb2⟩
      have HB3 := hidMk (HB2.out.trans (hb2.mono HB2.out.size))
      have HW3 := hidMk (HW2.out.below hb2 HW2.out.lt)
      have HRG3 := hidMk (HRG.out.up hb2)
      clear hb2
      by_cases hc : J.check = 0
      · have HRF := hidMk (HRE.out.trans (if_neg (fun h => h hc)))
        rw [hc]
        clear hc
        go_wp2_with (first | (refine wpList_store_row rfl 30 _ _ rfl w.heap.size (jobC J (.slice a n c)) rfl rfl 30 (jobC J (.slice a n c)) HW3.out szJob rfl (oneJob _ _ _ _) ?_) | (refine wpList_load_row rfl 30 _ rfl w.heap.size rfl _ (jobC J (.slice a n c)) _ _ HW3.out Tryz.underlying30 rfl szJob ?_))
        refine bodyPost_ret (results_row_two Tryz.results11 _ _ _ _ _ (.int .i64 0) (.int .i64 0) rfl rfl rfl (HW3.out.row (jobC J (.slice a n c))) Tryz.underlying30 szJob) rfl ?_
        refine ⟨a,c,by rw [HRF.out,HN.out]; rfl,by rw [HRF.out,← HN.out]; exact HCC.out.1,?_,below_setRow HB3.out (Nat.le_refl _) _⟩
        rw [HRF.out]
        intro k x hx
        obtain ⟨q,o,e,hq,c0,c1⟩ := HRG3.out k x hx
        have hne : q ≠ w.heap.size := HNE.out q o e
        have hk := setRow_other w2 w.heap.size q (jobC J (.slice a n c)) hne
        exact ⟨q,o,e,Nat.lt_of_lt_of_le hq (below_setRow (Below.refl 0 w2) (Nat.zero_le _) (jobC J (.slice a n c))).size,(World.cell?_of_block hk).trans c0,(World.cell?_of_block hk).trans c1⟩
      · have HRF := hidMk (HRE.out.trans (if_pos hc))
        have hc' : (J.check != 0) = true := by simpa using hc
        obtain ⟨ck,hck⟩ : ∃ x,x = J.check := ⟨_,rfl⟩
        rw [← hck] at hc' HRF ⊢
        clear hc hck
        go_wp2_with (first | (refine wpList_store_row rfl 30 _ _ rfl w.heap.size (jobC zeroJb (.slice none 0 0)) rfl rfl 30 (jobC J (.slice a n c)) HW3.out szJob rfl (oneJob _ _ _ _) ?_))
        refine bodyPost_ret (results_row_two Tryz.results11 _ _ _ _ _ (.int .i64 0) (.int .i64 ck) rfl rfl rfl (HW3.out.row (jobC zeroJb (.slice none 0 0))) Tryz.underlying30 szJob) rfl ?_
        exact RDQ.zero HRF.out (below_setRow HB3.out (Nat.le_refl _) _)
end Go.Proofs.YtljefjngmembkaaGreatDoor
