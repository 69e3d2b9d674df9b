/- Part 24 of the proof: TxV. -/
import Derived.Deep.WholeRow
import Derived.Test.YtljefjngmembkaaGreatDoorW22
import Derived.Test.YtljefjngmembkaaGreatDoorW23
/- The law ReedRead. -/
namespace Go.Proofs.YtljefjngmembkaaGreatDoor
set_option linter.all false
open Go.RowKit Go.Lib Go.Tx
theorem wpList_load_rowW {P : Program} {ops : Array Oper} {rest : List Oper} {o : Oper} {a : Act} {w : World} {Q : Exit → Act → World → Prop} (hw : Region.wanted o (yielded ops a.tmps) = true) (ty : TypeId) (x : Operand) (ho : o.op = .load ty x)
    (g : Nat) (hx : a.eval x = .pointer (some ⟨g,0,none⟩)) (t : TypeId) (cs : Array Value) (fr : Nat × Nat) (d : TypeDesc) (hg : w.heap[g]? = some (.cells cs t fr))
    (hu : P.underlying ty = some d) (hd : (match d with | .struct _ | .array _ _ => true | _ => false) = true) (hi : (P.info? ty).map (·.size) = some cs.size)
    (h : wpList P ops Q rest (a.put o.dst (.agg cs)) w) : wpList P ops Q (o :: rest) a w :=
  wpList_step fun K hK => by rw [if_pos hw]; exact wp_load_row ty x ho g hx t cs fr d hg hu hd hi (hK _ _ h)
theorem dec_short (u : Nat) (h : u < 1000) : (Lib.decDigits u).length ≤ 3 := by
  rw [Lib.decDigits]
  split
  · simp
  · rw [Lib.decDigits]
    split
    · simp
    · rw [Lib.decDigits]
      split
      · simp
      · omega
theorem itoa_short {n : Int} (h : -999 ≤ n ∧ n ≤ 999) : (itoa n).length ≤ 4 := by
  unfold itoa
  split
  · have := dec_short n.natAbs (by omega)
    rw [List.length_cons]
    omega
  · have := dec_short n.toNat (by omega)
    omega
theorem span_short {a b : Int} (h : -999 ≤ a ∧ a ≤ 999) (h2 : -999 ≤ b ∧ b ≤ 999) : (spanT 58 (a,b)).length ≤ 9 := by
  unfold spanT
  have := itoa_short h
  have := itoa_short h2
  simp only [List.length_append,List.length_cons]
  omega
theorem shT_short : ∀ (sh : List R2),(∀ s ∈ sh,-60 ≤ s.1 ∧ s.1 ≤ s.2 ∧ s.2 ≤ 60) → (shT sh).length ≤ 16 * sh.length
  | [],_ => Nat.le_refl _
  | s :: sh,h => by
    have ih := shT_short sh fun x hx => h x (List.mem_cons_of_mem _ hx)
    have h1 := h s List.mem_cons_self
    have h2 := span_short (a := s.1) (b := s.2) (by omega) (by omega)
    have h3 : (spanT 58 s).length ≤ 9 := h2
    rw [shT_cons,List.length_append,List.length_cons]
    unfold lineT
    rw [List.length_append,Tx.join_two,join_one,List.length_append,List.length_cons]
    simp only [shiftW,List.length_cons,List.length_nil]
    omega
theorem text_short {J : Jb} (hF : J.Full) : (textJ J).length ≤ 300 := by
  obtain ⟨p,t,r,u,d,x,y,le,wi,me,len,sh⟩ := hF
  have a1 := span_short (a := J.p1) (b := J.p2) (by omega) (by omega)
  have a2 := span_short (a := J.t1) (b := J.t2) (by omega) (by omega)
  have a3 := span_short (a := J.r1) (b := J.r2) (by omega) (by omega)
  have a4 := span_short (a := J.u1) (b := J.u2) (by omega) (by omega)
  have a5 := span_short (a := J.d1) (b := J.d2) (by omega) (by omega)
  have a6 := span_short (a := J.x1) (b := J.x2) (by omega) (by omega)
  have a7 := span_short (a := J.y1) (b := J.y2) (by omega) (by omega)
  have a8 := itoa_short (n := J.le) (by omega)
  have a9 := itoa_short (n := J.wi) (by omega)
  have a10 := itoa_short (n := J.me) (by omega)
  have a11 := shT_short J.sh sh
  unfold textJ lineT
  simp only [List.length_append,Tx.join_two,join_one,List.length_cons,List.length_nil,tongueW,fileW,passW]
  omega
theorem readJ_text {J : Jb} (h : J.check = 0) : readJ (bt (textJ J)).data.toList = (J,0,0) := by
  have hF := check_full h
  have hl := text_short hF
  show readJ (textJ J) = _
  unfold readJ
  rw [if_neg (by omega),parse_text hF]
  simp only [Nat.lt_irrefl,if_false,h,ne_eq,not_true_eq_false]
theorem readJ_back {T : List UInt8} (h : (readJ T).2.2 = 0) : (readJ T).1.check = 0 ∧ textJ (readJ T).1 = T := by
  unfold readJ at h ⊢
  split
  · rename_i h1
    rw [if_pos h1] at h
    cases h
  · rename_i h1
    rw [if_neg h1] at h
    split
    · rename_i h2
      rw [if_pos h2] at h
      cases h
    · rename_i h2
      rw [if_neg h2] at h
      split
      · rename_i h3
        rw [if_pos h3] at h
        exact absurd h h3
      · rename_i h3
        have e : (parseJ T).2 = 0 := by omega
        exact ⟨by simpa using h3,(parse_back (show parseJ T = ((parseJ T).1,0) by rw [← e])).symm⟩
/-- The chapter's example. -/
def TunOK8 : Prop := ∀ (w : World),8 ≤ w.heap.size → Calls Tryz.prog 5 #[] w fun e w' => e = .returned (.bool true) ∧ Below w.heap.size w w'
set_option maxHeartbeats 2000000 in
set_option maxRecDepth 1000000 in
theorem read_law (HT : TunOK8) (a : Option Addr) (n c : Nat) (l : List Int) (X : ByteArray) (w : World) (hn : n = l.length) (hm : n ≤ 9223372036854775807) (h : Is w w.heap.size a l) (hl : LibW w) :
    Calls Tryz.prog 4 #[.slice a n c,.string X] w fun e w' => e = .returned (.bool true) ∧ Below w.heap.size w w' := by
  have HL := hidMk hl
  have HTN := hidMk HT
  have HN := hidMk hn
  have HI := hidMk h
  have hr8 := hl.room
  have HR8 := hidMk hr8
  clear hl HT hn h hr8
  go_enter Tryz.func4,Tryz.ntmps4
  by_cases h250 : 250 < X.size
  · have h250' : (250 : Int) < (X.size : Int) := by omega
    go_wp2_with fail
    refine (HTN.out _ HR8.out).mono ?_
    rintro e w' ⟨rfl,hb⟩
    have HB := hidMk hb
    clear hb
    go_wp2_with fail
    refine bodyPost_ret (v := .bool true) (by simp [results,Tryz.results4,go_sem]) rfl ?_
    exact ⟨rfl,HB.out⟩
  have h250' : ¬ (250 : Int) < (X.size : Int) := by omega
  go_wp2_with fail
  refine (newPot_any a n c l w HN.out hm HI.out).mono ?_
  rintro e w1 ⟨s,t,rfl,hp,hb1⟩
  have HB1 := hidMk hb1
  clear hb1
  go_wp2_with fail
  refine (jobOf_hand 40 6 (by omega) (by omega) w.heap.size w1 ⟨t,s,hp⟩).mono ?_
  rintro e w2 ⟨M,ma,mn,mc,rfl,hmn,hrg,hck,hpb,hpt,hown,_,_⟩
  have HB2 := hidMk (HB1.out.trans ((hpb.mono (by have := hp.lt; omega)).toBelow (Nat.le_refl _)))
  have HMN := hidMk hmn
  have HRG := hidMk hrg
  have HCK := hidMk hck
  clear hmn hrg hck hpb hpt hown hp
  go_wp2_with (first | (refine wpList_store_row rfl 30 _ _ rfl w2.heap.size (jobC M (.slice ma mn mc)) rfl rfl _ _ (Bk.new _ _ _) szJob rfl (oneJob _ _ _ _) ?_; rw [World.setRow_alloc_new]) | (refine wpList_load_row rfl 30 _ rfl w2.heap.size rfl _ (jobC M (.slice ma mn mc)) _ _ (Bk.new _ _ _) Tryz.underlying30 rfl szJob ?_))
  have hbx := below0 w2 (.cells (jobC M (.slice ma mn mc)) 30)
  have HB3 := hidMk (HB2.out.trans (hbx.mono HB2.out.size))
  have HRG3 := hidMk (HRG.out.up hbx)
  have HBK := hidMk (Bk.new w2 30 (jobC M (.slice ma mn mc)))
  generalize hw3 : w2.alloc (.cells (jobC M (.slice ma mn mc)) 30) = w3 at HB3 HRG3 HBK hbx ⊢
  have hz3 : w2.heap.size < w3.heap.size := HBK.out.lt
  generalize w2.heap.size = g5 at HBK hz3 ⊢
  clear hw3 hbx HB2 HRG
  refine (write_ok M ma mn mc w3 HCK.out HMN.out HRG3.out (HL.out.up HB3.out)).mono ?_
  rintro e w4 ⟨rfl,hb4⟩
  have HB4 := hidMk (HB3.out.trans (hb4.mono HB3.out.size))
  have HRG4 := hidMk (HRG3.out.up hb4)
  have HBK4 := hidMk (HBK.out.below hb4 HBK.out.lt)
  clear hb4 HB3 HRG3 HBK hz3
  go_wp2_with fail
  refine (read_any (bt (textJ M)) w4 (HL.out.up HB4.out)).mono ?_
  rintro e w5 ⟨ra,rc,rfl,hrc,hr5,hb5⟩
  rw [readJ_text HCK.out] at hr5 hrc ⊢
  simp only at hr5 hrc
  simp only
  rw [← HMN.out]
  have HB5 := hidMk (HB4.out.trans (hb5.mono HB4.out.size))
  have HRG5 := hidMk (HRG4.out.up hb5)
  have HBK5 := hidMk (HBK4.out.below hb5 HBK4.out.lt)
  have HR5 := hidMk hr5
  clear hb5 HB4 HRG4 HBK4 hr5 hrc
  have hby := below0 w5 (.cells (jobC M (.slice ra mn rc)) 30)
  have HB6 := hidMk (HB5.out.trans (hby.mono HB5.out.size))
  have HRG6 := hidMk (HRG5.out.up hby)
  have HRR6 := hidMk (HR5.out.up hby)
  have HBK6 := hidMk (HBK5.out.below hby HBK5.out.lt)
  have HBN6 := hidMk (Bk.new w5 30 (jobC M (.slice ra mn rc)))
  clear hby
  go_wp2_with (first | (refine wpList_store_row rfl 30 _ _ rfl w5.heap.size (jobC M (.slice ra mn rc)) rfl rfl _ _ (Bk.new _ _ _) szJob rfl (oneJob _ _ _ _) ?_; rw [World.setRow_alloc_new]) | (refine wpList_load_rowW (by kernel_rfl) 30 _ rfl g5 rfl _ (jobC M (.slice ma mn mc)) _ _ HBK6.out Tryz.underlying30 rfl szJob ?_) | (refine wpList_load_rowW (by kernel_rfl) 30 _ rfl w5.heap.size rfl _ (jobC M (.slice ra mn rc)) _ _ HBN6.out Tryz.underlying30 rfl szJob ?_))
  have HM1 := hidMk (show mn ≤ 1000 by have := (check_full HCK.out).len; have := HMN.out; omega)
  refine (sameJobs_any M ma ra mn mc rc _ HMN.out HM1.out HRG6.out HRR6.out).mono ?_
  rintro e w7 ⟨rfl,hb7⟩
  have HB7 := hidMk (HB6.out.trans (hb7.mono HB6.out.size))
  clear hb7 HB6 HRG6 HRR6 HBK6 HBN6 HB5 HRG5 HBK5 HR5
  go_wp2_with fail
  refine (read_any X w7 (HL.out.up HB7.out)).mono ?_
  rintro e w8 ⟨ya,yc,rfl,hyc,hry,hb8⟩
  obtain ⟨Y,hY⟩ : ∃ x,x = (readJ X.data.toList).1 := ⟨_,rfl⟩
  obtain ⟨er,her⟩ : ∃ x,x = (readJ X.data.toList).2.2 := ⟨_,rfl⟩
  obtain ⟨li,hli⟩ : ∃ x,x = (readJ X.data.toList).2.1 := ⟨_,rfl⟩
  have HBACK := hidMk (readJ_back (T := X.data.toList))
  rw [← hY,← her] at HBACK
  rw [← hY] at hry
  rw [← hY,← her,← hli]
  obtain ⟨yn,hyn⟩ : ∃ x,x = Y.sh.length := ⟨_,rfl⟩
  rw [← hyn]
  have HYN := hidMk hyn
  have HB8 := hidMk (HB7.out.trans (hb8.mono HB7.out.size))
  have hby := below0 w8 (.cells (jobC Y (.slice ya yn yc)) 30)
  have HRY := hidMk (Rg.up hry hby)
  have HB9 := hidMk (HB8.out.trans (hby.mono HB8.out.size))
  have HBY := hidMk (Bk.new w8 30 (jobC Y (.slice ya yn yc)))
  clear hY her hli hyc hry hb8 hyn HB7 hby
  by_cases he : er = 0
  · obtain ⟨hc,ht⟩ := HBACK.out he
    subst he
    have HTX := hidMk (show bt (textJ Y) = X by unfold bt; rw [ht])
    have HC := hidMk hc
    clear hc ht
    go_wp2_with (first | (refine wpList_store_row rfl 30 _ _ rfl w8.heap.size (jobC Y (.slice ya yn yc)) rfl rfl _ _ (Bk.new _ _ _) szJob rfl (oneJob _ _ _ _) ?_; rw [World.setRow_alloc_new]) | (refine wpList_load_row rfl 30 _ rfl w8.heap.size rfl _ (jobC Y (.slice ya yn yc)) _ _ HBY.out Tryz.underlying30 rfl szJob ?_))
    refine (write_ok Y ya yn yc _ HC.out HYN.out HRY.out (HL.out.up HB9.out)).mono ?_
    rintro e w10 ⟨rfl,hb10⟩
    rw [HTX.out]
    have HB10 := hidMk (HB9.out.trans (hb10.mono HB9.out.size))
    clear hb10
    go_wp2_with fail
    refine (HTN.out _ (Nat.le_trans HR8.out HB10.out.size)).mono ?_
    rintro e w11 ⟨rfl,hb11⟩
    have HB11 := hidMk (HB10.out.trans (hb11.mono HB10.out.size))
    clear hb11
    go_wp2_with fail
    refine bodyPost_ret (v := .bool true) (by simp [results,Tryz.results4,go_sem]) rfl ?_
    exact ⟨rfl,HB11.out⟩
  · have he' : (er != 0) = true := by simpa using he
    go_wp2_with (first | (refine wpList_store_row rfl 30 _ _ rfl w8.heap.size (jobC Y (.slice ya yn yc)) rfl rfl _ _ (Bk.new _ _ _) szJob rfl (oneJob _ _ _ _) ?_; rw [World.setRow_alloc_new]))
    refine (HTN.out _ (Nat.le_trans HR8.out HB9.out.size)).mono ?_
    rintro e w11 ⟨rfl,hb11⟩
    have HB11 := hidMk (HB9.out.trans (hb11.mono HB9.out.size))
    clear hb11
    go_wp2_with fail
    refine bodyPost_ret (v := .bool true) (by simp [results,Tryz.results4,go_sem]) rfl ?_
    exact ⟨rfl,HB11.out⟩
end Go.Proofs.YtljefjngmembkaaGreatDoor
