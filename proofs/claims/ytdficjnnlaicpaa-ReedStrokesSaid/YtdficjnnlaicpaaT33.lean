/- Part 33 of the proof: StkG, StkE, StkC. -/
import Derived.Deep.WholeRow
import Derived.LoopN
import Derived.Test.YtdficjnnlaicpaaT32
import Derived.Test.YtdficjnnlaicpaaT13
import Derived.Test.YtdficjnnlaicpaaT23
/- The law ReedStrokes: the loop, its beginning. -/
namespace Go.Proofs.Ytdficjnnlaicpaa
set_option linter.all false
open Go.RowKit
set_option maxHeartbeats 4000000 in
set_option maxRecDepth 1000000 in
theorem lbp1 {w1 : World} {g q : Nat} {es : List Ent} {ls : List Lst} {w0 : World} {k : Nat} {e : Ent} {x : Lst} {Q : Exit → Act → World → Prop} {oa : Option Addr} {oc g18 : Nat} {ya : Option Addr} {yc : Nat} {w : World} {u0 u1 u2 u3 u4 u5 u6 u7 u8 u9 u10 u11 u12 u13 u14 u20 u21 u22 u23 u24 u25 u26 u27 u28 u29 u30 u31 u32 u33 u34 u35 u36 u37 u38 u39 u40 u41 u42 u43 u44 u45 u46 u47 u48 u49 u50 u51 u52 u53 u54 u55 u56 u57 u58 u59 u60 u61 u62 u63 u64 u65 u66 u67 u68 u69 u70 u71 u72 u73 u74 u75 u76 u77 u78 u79 u80 u81 u82 u83 u84 u85 u86 u87 u88 u89 u90 u91 u92 u93 u94 u95 u96 u97 u98 u99 u100 u101 u102 u103 u104 u105 u106 u107 u108 u109 u110 u111 u112 u113 u114 u115 u116 u117 u118 u119 u120 u121 u122 u123 u124 u125 u126 u127 u128 u129 u130 u131 u132 u133 u134 u135 u136 u137 u138 u139 u140 u141 u142 u143 u144 u145 u146 u147 u148 u149 u150 u151 u152 u153 u154 u155 u156 u157 u158 u159 u160 u161 u162 u163 u164 u165 u166 u167 u168 u169 u170 u171 u172 u173 u174 u175 u176 u177 u178 u179 u180 u181 u182 u183 u184 u185 u186 u187 u188 u189 u190 u191 u192 u193 u194 u195 u196 u197 u198 u199 u200 u201 u202 u203 u204 u205 u206 u207 u208 u209 u210 u211 u212 u213 u214 u215 u216 u217 u218 u219 u220 u221 u222 u223 u224 u225 u226 u227 u228 u229 u230 : Value} (hfine : FineOK) (hs : SL w0 w1 g q es ls) (hk : es[k]? = some e) (hx : ls[k]? = some x) (hk5 : k < 5) (hQ : LQ Q w1 g q k) (hB : Below w1.heap.size w1 w) (h18 : Bk w g18 30 (jobC e.J (.slice oa e.n oc))) (ho : Rg w w.heap.size oa e.J.sh) (hy : Is w w.heap.size ya x.l) : Code.wp Try.prog lb1 Q ⟨#[u0, u1, u2, u3, u4, u5, u6, u7, u8, u9, u10, u11, u12, u13, u14, (.slice (some ⟨g, 0, none⟩) 5 5), (.slice (some ⟨q, 0, none⟩) 5 5), (.int .i64 ↑k), (.pointer (some ⟨g18, 0, none⟩)), (.slice ya x.n yc), u20, u21, u22, u23, u24, u25, u26, u27, u28, u29, u30, u31, u32, u33, u34, u35, u36, u37, u38, u39, u40, u41, u42, u43, u44, u45, u46, u47, u48, u49, u50, u51, u52, u53, u54, u55, u56, u57, u58, u59, u60, u61, u62, u63, u64, u65, u66, u67, u68, u69, u70, u71, u72, u73, u74, u75, u76, u77, u78, u79, u80, u81, u82, u83, u84, u85, u86, u87, u88, u89, u90, u91, u92, u93, u94, u95, u96, u97, u98, u99, u100, u101, u102, u103, u104, u105, u106, u107, u108, u109, u110, u111, u112, u113, u114, u115, u116, u117, u118, u119, u120, u121, u122, u123, u124, u125, u126, u127, u128, u129, u130, u131, u132, u133, u134, u135, u136, u137, u138, u139, u140, u141, u142, u143, u144, u145, u146, u147, u148, u149, u150, u151, u152, u153, u154, u155, u156, u157, u158, u159, u160, u161, u162, u163, u164, u165, u166, u167, u168, u169, u170, u171, u172, u173, u174, u175, u176, u177, u178, u179, u180, u181, u182, u183, u184, u185, u186, u187, u188, u189, u190, u191, u192, u193, u194, u195, u196, u197, u198, u199, u200, u201, u202, u203, u204, u205, u206, u207, u208, u209, u210, u211, u212, u213, u214, u215, u216, u217, u218, u219, u220, u221, u222, u223, u224, u225, u226, u227, u228, u229, u230], []⟩ w := by
  rw [lb1_eq]
  have HF := hidMk hfine
  clear hfine
  obtain ⟨hrg, hen, hen30⟩ := hs.each e (List.mem_of_getElem? hk)
  obtain ⟨hxi, hxn, hxn30⟩ := hs.lach x (List.mem_of_getElem? hx)
  have HEN := hidMk hen
  have HXN := hidMk hxn
  have HRG := hidMk (hrg.up hB)
  have HIS := hidMk (hxi.up hB)
  have HS := hidMk hs
  have HQ := hidMk hQ
  have HR := hidMk (hs.row hk hB)
  have HB := hidMk hB
  have HK := hidMk hk
  have HX := hidMk hx
  have hwz := hB.size
  have hnm : e.n ≤ 9223372036854775807 := by omega
  have hxm : x.n ≤ 9223372036854775807 := by omega
  have H18 := hidMk h18
  have HO := hidMk ho
  have HY := hidMk hy
  clear h18 ho hy
  clear hs hQ hB hk hx hrg hen hxi hxn
  go_wp2_with (refine wpList_load_row rfl 30 _ rfl g18 rfl _ (jobC e.J (.slice oa e.n oc)) _ _ H18.out Try.underlying30 rfl szJob ?_)
  refine (afterF_any e.J oa e.n oc ya x.n yc x.l _ HEN.out hnm HO.out HXN.out hxm HY.out).mono ?_
  rintro e' w2 ans
  obtain ⟨rfl, hb2⟩ := after_ans ans
  clear ans
  have hz2 := hb2.size
  have al : Below w.heap.size w (w2.alloc (.cells (tonC (afterT e.J x.l)) 25)) := hb2.alloc hz2 _
  have HB2 := hidMk (HB.out.trans (al.mono hwz))
  have H18' := hidMk (H18.out.below al H18.out.lt)
  have HO' := hidMk (HO.out.up al)
  have HY' := hidMk (HY.out.up al)
  have hnew := hidMk (Bk.new w2 25 (tonC (afterT e.J x.l)))
  clear al hb2
  go_wp2_with (first | (refine wpList_store_row rfl 25 _ _ rfl w2.heap.size (tonC (afterT e.J x.l)) rfl rfl _ _ (Bk.new _ _ _) szTongue rfl (oneTon _) ?_; rw [World.setRow_alloc_new]))
  exact lbp2 HF.out HS.out HK.out HX.out hk5 HQ.out HB2.out H18'.out HO'.out HY'.out hnew.out
set_option maxHeartbeats 4000000 in
set_option maxRecDepth 1000000 in
theorem lbp0 {w1 : World} {g q : Nat} {es : List Ent} {ls : List Lst} {w0 : World} {k : Nat} {e : Ent} {x : Lst} {Q : Exit → Act → World → Prop} {w : World} {u0 u1 u2 u3 u4 u5 u6 u7 u8 u9 u10 u11 u12 u13 u14 u18 u19 u20 u21 u22 u23 u24 u25 u26 u27 u28 u29 u30 u31 u32 u33 u34 u35 u36 u37 u38 u39 u40 u41 u42 u43 u44 u45 u46 u47 u48 u49 u50 u51 u52 u53 u54 u55 u56 u57 u58 u59 u60 u61 u62 u63 u64 u65 u66 u67 u68 u69 u70 u71 u72 u73 u74 u75 u76 u77 u78 u79 u80 u81 u82 u83 u84 u85 u86 u87 u88 u89 u90 u91 u92 u93 u94 u95 u96 u97 u98 u99 u100 u101 u102 u103 u104 u105 u106 u107 u108 u109 u110 u111 u112 u113 u114 u115 u116 u117 u118 u119 u120 u121 u122 u123 u124 u125 u126 u127 u128 u129 u130 u131 u132 u133 u134 u135 u136 u137 u138 u139 u140 u141 u142 u143 u144 u145 u146 u147 u148 u149 u150 u151 u152 u153 u154 u155 u156 u157 u158 u159 u160 u161 u162 u163 u164 u165 u166 u167 u168 u169 u170 u171 u172 u173 u174 u175 u176 u177 u178 u179 u180 u181 u182 u183 u184 u185 u186 u187 u188 u189 u190 u191 u192 u193 u194 u195 u196 u197 u198 u199 u200 u201 u202 u203 u204 u205 u206 u207 u208 u209 u210 u211 u212 u213 u214 u215 u216 u217 u218 u219 u220 u221 u222 u223 u224 u225 u226 u227 u228 u229 u230 : Value} (hfine : FineOK) (hs : SL w0 w1 g q es ls) (hk : es[k]? = some e) (hx : ls[k]? = some x) (hk5 : k < 5) (hQ : LQ Q w1 g q k) (hB : Below w1.heap.size w1 w) : Code.wp Try.prog lb0 Q ⟨#[u0, u1, u2, u3, u4, u5, u6, u7, u8, u9, u10, u11, u12, u13, u14, (.slice (some ⟨g, 0, none⟩) 5 5), (.slice (some ⟨q, 0, none⟩) 5 5), (.int .i64 ↑k), u18, u19, u20, u21, u22, u23, u24, u25, u26, u27, u28, u29, u30, u31, u32, u33, u34, u35, u36, u37, u38, u39, u40, u41, u42, u43, u44, u45, u46, u47, u48, u49, u50, u51, u52, u53, u54, u55, u56, u57, u58, u59, u60, u61, u62, u63, u64, u65, u66, u67, u68, u69, u70, u71, u72, u73, u74, u75, u76, u77, u78, u79, u80, u81, u82, u83, u84, u85, u86, u87, u88, u89, u90, u91, u92, u93, u94, u95, u96, u97, u98, u99, u100, u101, u102, u103, u104, u105, u106, u107, u108, u109, u110, u111, u112, u113, u114, u115, u116, u117, u118, u119, u120, u121, u122, u123, u124, u125, u126, u127, u128, u129, u130, u131, u132, u133, u134, u135, u136, u137, u138, u139, u140, u141, u142, u143, u144, u145, u146, u147, u148, u149, u150, u151, u152, u153, u154, u155, u156, u157, u158, u159, u160, u161, u162, u163, u164, u165, u166, u167, u168, u169, u170, u171, u172, u173, u174, u175, u176, u177, u178, u179, u180, u181, u182, u183, u184, u185, u186, u187, u188, u189, u190, u191, u192, u193, u194, u195, u196, u197, u198, u199, u200, u201, u202, u203, u204, u205, u206, u207, u208, u209, u210, u211, u212, u213, u214, u215, u216, u217, u218, u219, u220, u221, u222, u223, u224, u225, u226, u227, u228, u229, u230], []⟩ w := by
  rw [lb0_eq]
  have HF := hidMk hfine
  clear hfine
  obtain ⟨hrg, hen, hen30⟩ := hs.each e (List.mem_of_getElem? hk)
  obtain ⟨hxi, hxn, hxn30⟩ := hs.lach x (List.mem_of_getElem? hx)
  have HEN := hidMk hen
  have HXN := hidMk hxn
  have HRG := hidMk (hrg.up hB)
  have HIS := hidMk (hxi.up hB)
  have HS := hidMk hs
  have HQ := hidMk hQ
  have HR := hidMk (hs.row hk hB)
  have HB := hidMk hB
  have HK := hidMk hk
  have HX := hidMk hx
  have hwz := hB.size
  have hnm : e.n ≤ 9223372036854775807 := by omega
  have hxm : x.n ≤ 9223372036854775807 := by omega
  clear hs hQ hB hk hx hrg hen hxi hxn
  have hki : (0 : Int) ≤ (k : Int) := by omega
  have hki2 : (k : Int) < 5 := by omega
  refine wp_seq_k fun K0 hK0 => ?_
  refine region_via (R := fun a_ e_ a' w' => e_ = .normal ∧ ∃ (v92 v93 v94 v95 v96 v97 v98 v99 v100 v101 : Value) (g18 : Nat) (oa : Option Addr) (oc : Nat) (ya : Option Addr) (yc : Nat), a' = ((((((((((((a_.put (some 92) v92).put (some 93) v93).put (some 94) v94).put (some 95) v95).put (some 96) v96).put (some 97) v97).put (some 98) v98).put (some 99) v99).put (some 100) v100).put (some 101) v101).put (some 18) (.pointer (some ⟨g18, 0, none⟩))).put (some 19) (.slice ya x.n yc)) ∧ Below w.heap.size w w' ∧ Bk w' g18 30 (jobC e.J (.slice oa e.n oc)) ∧ Rg w' w'.heap.size oa e.J.sh ∧ Is w' w'.heap.size ya x.l) ?_ ?_
  rotate_left
  · rintro e_ a' w' ⟨rfl, v92, v93, v94, v95, v96, v97, v98, v99, v100, v101, g18, oa, oc, ya, yc, rfl, al, hx, hr, hi⟩
    refine hK0 _ _ ?_
    simp only [Act.put, aT, aZ, aS]
    exact lbp1 HF.out HS.out HK.out HX.out hk5 HQ.out (HB.out.trans (al.mono hwz)) hx hr hi
  have hBW : Below w.heap.size w w.drew := (Below.refl _ _).drew
  refine wp_region_held_drew (S := fun w' => Below w.heap.size w w') (by kernel_rfl) hBW (fun hS0 => ?_)
  generalize hWd : w.drew = wd at hS0 hBW ⊢
  clear hWd
  refine wpAnyH_take (i := 0) (v := ?_) rfl (by kernel_rfl) (by kernel_rfl) (by kernel_rfl) (fun _ _ _ h => by cases h.1) (.inl ⟨by rfl, ?_⟩) (by assumption) ?_
  rotate_left
  · (intro w' hSw; (try dsimp only at hSw); (have hrd := HS.out.rd HX.out (HB.out.trans (hSw.mono hwz))); go_simp <;> with_reducible rfl)
  (try simp only [Act.put, aT, aZ, aS])
  refine wpAnyH_take (i := 1) (v := ?_) rfl (by kernel_rfl) (by kernel_rfl) (by kernel_rfl) (fun _ _ _ h => by cases h.1) (.inl ⟨by rfl, ?_⟩) (by assumption) ?_
  rotate_left
  · (intro w' hSw; (try dsimp only at hSw); (have hrd := HS.out.rd HX.out (HB.out.trans (hSw.mono hwz))); go_simp <;> with_reducible rfl)
  (try simp only [Act.put, aT, aZ, aS])
  refine wpAnyH_take (i := 2) (v := ?_) rfl (by kernel_rfl) (by kernel_rfl) (by kernel_rfl) (fun _ _ _ h => by cases h.1) (.inl ⟨by rfl, ?_⟩) (by assumption) ?_
  rotate_left
  · (intro w' hSw; (try dsimp only at hSw); (have hrd := HS.out.rd HX.out (HB.out.trans (hSw.mono hwz))); go_simp <;> with_reducible rfl)
  (try simp only [Act.put, aT, aZ, aS])
  refine wpAnyH_take (i := 3) rfl (by kernel_rfl) (by kernel_rfl) (by kernel_rfl) (fun _ _ _ h => by cases h.1) (yields_mid (by rfl) 30 _ rfl g (k * 18) rfl (jobC e.J (.slice e.a e.n e.c)) _ (fun w' hw => HS.out.row HK.out (HB.out.trans (hw.mono hwz))) Try.underlying30 rfl szJob) (by assumption) ?_
  (try simp only [Act.put, aT, aZ, aS])
  refine wpAnyH_take (i := 5) (v := ?_) rfl (by kernel_rfl) (by kernel_rfl) (by kernel_rfl) (fun _ _ _ h => by cases h.1) (.inl ⟨by rfl, ?_⟩) (by assumption) ?_
  rotate_left
  · (intro w' hSw; (try dsimp only at hSw); (have hrd := HS.out.rd HX.out (HB.out.trans (hSw.mono hwz))); go_simp <;> with_reducible rfl)
  (try simp only [Act.put, aT, aZ, aS])
  refine wpAnyH_take (i := 6) (v := ?_) rfl (by kernel_rfl) (by kernel_rfl) (by kernel_rfl) (fun _ _ _ h => by cases h.1) (.inl ⟨by rfl, ?_⟩) (by assumption) ?_
  rotate_left
  · (intro w' hSw; (try dsimp only at hSw); (have hrd := HS.out.rd HX.out (HB.out.trans (hSw.mono hwz))); go_simp <;> with_reducible rfl)
  (try simp only [Act.put, aT, aZ, aS])
  refine wpAnyH_take (i := 7) (v := ?_) rfl (by kernel_rfl) (by kernel_rfl) (by kernel_rfl) (fun _ _ _ h => by cases h.1) (.inl ⟨by rfl, ?_⟩) (by assumption) ?_
  rotate_left
  · (intro w' hSw; (try dsimp only at hSw); (have hrd := HS.out.rd HX.out (HB.out.trans (hSw.mono hwz))); go_simp <;> with_reducible rfl)
  (try simp only [Act.put, aT, aZ, aS])
  refine wpAnyH_take (i := 8) (v := ?_) rfl (by kernel_rfl) (by kernel_rfl) (by kernel_rfl) (fun _ _ _ h => by cases h.1) (.inl ⟨by rfl, ?_⟩) (by assumption) ?_
  rotate_left
  · (intro w' hSw; (try dsimp only at hSw); (have hrd := HS.out.rd HX.out (HB.out.trans (hSw.mono hwz))); go_simp <;> with_reducible rfl)
  (try simp only [Act.put, aT, aZ, aS])
  refine wpAnyH_ready (rs := [4, 10]) (by kernel_rfl) (by simp) ?_
  refine AllReadyH.cons rfl (fun K hK => ?_) ?_
  · go_simp
    go_at_call 8
    refine (copyJobR_any e.J e.a e.n e.c _ HEN.out (by omega) (HRG.out.up hBW)).mono ?_
    rintro e' w4 ⟨oa, oc, rfl, hog, hb4, hfO⟩
    have hBW_ := hBW.trans (hb4.mono hBW.size)
    clear hBW
    have hBW := hBW_
    clear hBW_
    clear hb4
    go_wp2_with fail
    refine hK.out _ _ hBW (fun _ => ?_)
    clear hK K
    (try simp only [Act.put, aT, aZ, aS])
    refine wpAnyH_ready (rs := [9, 10]) (by kernel_rfl) (by simp) ?_
    refine AllReadyH.cons rfl (fun K hK => ?_) ?_
    · go_simp
      go_at_call 21
      refine (ints_any x.a x.n x.c x.l _ HXN.out (by omega) (HIS.out.up hBW)).mono ?_
      rintro e' w9 ⟨ya, yc, rfl, hiy, hb9, hfY⟩
      have hz9 := hb9.size
      have hBW_ := hBW.trans (hb9.mono hBW.size)
      clear hBW
      have hBW := hBW_
      clear hBW_
      have hog_ := hog.up hb9
      clear hog
      have hog := hog_
      clear hog_
      clear hb9
      go_wp2_with fail
      refine hK.out _ _ hBW (fun _ => ?_)
      clear hK K
      (try simp only [Act.put, aT, aZ, aS])
      refine wpAnyH_ready (rs := [10]) (by kernel_rfl) (by simp) ?_
      refine AllReadyH.cons rfl (fun K hK => ?_) ?_
      · have hx0 : Bk (w9.alloc (.cells (jobC zeroJ (.slice none 0 0)) 30)) w9.heap.size 30 (jobC zeroJ (.slice none 0 0)) := Bk.new _ _ _
        have hgl : w.heap.size ≤ w9.heap.size := hBW.size
        have hneO : ∀ q off, oa = some ⟨q, off, none⟩ → q ≠ w9.heap.size := fun q off e hq => by
          have h1 := (hfO q off e).2
          omega
        have hneY : ∀ q off, ya = some ⟨q, off, none⟩ → q ≠ w9.heap.size := fun q off e hq => by
          have h1 := (hfY q off e).2
          omega
        have hBW_ := (hBW.alloc hBW.size (.cells (jobC zeroJ (.slice none 0 0)) 30) : Below w.heap.size w (w9.alloc (.cells (jobC zeroJ (.slice none 0 0)) 30)))
        clear hBW
        have hBW := hBW_
        clear hBW_
        have hog_ := hog.up ((Below.refl _ _).alloc (Nat.le_refl _) (.cells (jobC zeroJ (.slice none 0 0)) 30) : Below w9.heap.size w9 (w9.alloc (.cells (jobC zeroJ (.slice none 0 0)) 30)))
        clear hog
        have hog := hog_
        clear hog_
        have hiy_ := hiy.up ((Below.refl _ _).alloc (Nat.le_refl _) (.cells (jobC zeroJ (.slice none 0 0)) 30) : Below w9.heap.size w9 (w9.alloc (.cells (jobC zeroJ (.slice none 0 0)) 30)))
        clear hiy
        have hiy := hiy_
        clear hiy_
        go_simp
        show K _ (w9.alloc (.cells (jobC zeroJ (.slice none 0 0)) 30))
        refine hK.out _ _ hBW (fun _ => ?_)
        generalize hW_ : (w9.alloc (.cells (jobC zeroJ (.slice none 0 0)) 30)) = wA at hx0 hBW hog hiy ⊢
        clear hW_
        generalize hG_ : w9.heap.size = gA at hx0 hgl hneO hneY ⊢
        clear hG_
        clear hK K
        (try simp only [Act.put, aT, aZ, aS])
        refine wpAnyH_ready (rs := [11]) (by kernel_rfl) (by simp) ?_
        refine AllReadyH.cons rfl (fun K hK => ?_) ?_
        · have hx1 := hx0.row (jobC e.J (.slice oa e.n oc))
          have hB1 := below_setRow hBW hgl (jobC e.J (.slice oa e.n oc))
          have ho1 := Rg.rowKeep hog hneO (jobC e.J (.slice oa e.n oc))
          have hy1 := Is.rowKeep hiy hneY (jobC e.J (.slice oa e.n oc))
          rw [if_pos (by rfl)]
          refine wp_store_row 30 (.tmp 18) (.tmp 96) rfl gA (jobC e.J (.slice oa e.n oc)) rfl rfl 30 _ hx0 szJob rfl (oneJob _ _ _ _) ?_
          refine hK.out _ _ hB1 (fun _ => ?_)
          generalize hW_ : wA.setRow gA (jobC e.J (.slice oa e.n oc)) = wS at hx1 hB1 ho1 hy1 ⊢
          clear hW_ hog hiy hx0 hBW
          clear hK K
          (try simp only [Act.put, aT, aZ, aS])
          refine wpAnyH_ready (rs := [12]) (by kernel_rfl) (by simp) ?_
          refine AllReadyH.cons rfl (fun K hK => ?_) ?_
          · go_simp
            refine hK.out _ _ hB1 (fun _ => ?_)
            clear hK K
            (try simp only [Act.put, aT, aZ, aS])
            refine wpAnyH_done (by kernel_rfl) ?_ _
            exact ⟨rfl, _, _, _, _, _, _, _, _, _, _, gA, oa, oc, ya, yc, rfl, hB1, hx1, ho1, hy1⟩
          exact AllReadyH.nil
        exact AllReadyH.nil
      exact AllReadyH.nil
    refine AllReadyH.cons rfl (fun K hK => ?_) ?_
    · have hx0 : Bk (w4.alloc (.cells (jobC zeroJ (.slice none 0 0)) 30)) w4.heap.size 30 (jobC zeroJ (.slice none 0 0)) := Bk.new _ _ _
      have hgl : w.heap.size ≤ w4.heap.size := hBW.size
      have hneO : ∀ q off, oa = some ⟨q, off, none⟩ → q ≠ w4.heap.size := fun q off e hq => by
        have h1 := (hfO q off e).2
        omega
      have hBW_ := (hBW.alloc hBW.size (.cells (jobC zeroJ (.slice none 0 0)) 30) : Below w.heap.size w (w4.alloc (.cells (jobC zeroJ (.slice none 0 0)) 30)))
      clear hBW
      have hBW := hBW_
      clear hBW_
      have hog_ := hog.up ((Below.refl _ _).alloc (Nat.le_refl _) (.cells (jobC zeroJ (.slice none 0 0)) 30) : Below w4.heap.size w4 (w4.alloc (.cells (jobC zeroJ (.slice none 0 0)) 30)))
      clear hog
      have hog := hog_
      clear hog_
      go_simp
      show K _ (w4.alloc (.cells (jobC zeroJ (.slice none 0 0)) 30))
      refine hK.out _ _ hBW (fun _ => ?_)
      generalize hW_ : (w4.alloc (.cells (jobC zeroJ (.slice none 0 0)) 30)) = wA at hx0 hBW hog ⊢
      clear hW_
      generalize hG_ : w4.heap.size = gA at hx0 hgl hneO ⊢
      clear hG_
      clear hK K
      (try simp only [Act.put, aT, aZ, aS])
      refine wpAnyH_ready (rs := [9]) (by kernel_rfl) (by simp) ?_
      refine AllReadyH.cons rfl (fun K hK => ?_) ?_
      · go_simp
        go_at_call 21
        refine (ints_any x.a x.n x.c x.l _ HXN.out (by omega) (HIS.out.up hBW)).mono ?_
        rintro e' w9 ⟨ya, yc, rfl, hiy, hb9, hfY⟩
        have hz9 := hb9.size
        have hBW_ := hBW.trans (hb9.mono hBW.size)
        clear hBW
        have hBW := hBW_
        clear hBW_
        have hog_ := hog.up hb9
        clear hog
        have hog := hog_
        clear hog_
        have hneY : ∀ q off, ya = some ⟨q, off, none⟩ → q ≠ gA := fun q off e hq => by
          have h1 := (hfY q off e).1
          have h2 := hx0.lt
          omega
        have hx0_ := hx0.below hb9 hx0.lt
        clear hx0
        have hx0 := hx0_
        clear hx0_
        clear hb9
        go_wp2_with fail
        refine hK.out _ _ hBW (fun _ => ?_)
        clear hK K
        (try simp only [Act.put, aT, aZ, aS])
        refine wpAnyH_ready (rs := [11]) (by kernel_rfl) (by simp) ?_
        refine AllReadyH.cons rfl (fun K hK => ?_) ?_
        · have hx1 := hx0.row (jobC e.J (.slice oa e.n oc))
          have hB1 := below_setRow hBW hgl (jobC e.J (.slice oa e.n oc))
          have ho1 := Rg.rowKeep hog hneO (jobC e.J (.slice oa e.n oc))
          have hy1 := Is.rowKeep hiy hneY (jobC e.J (.slice oa e.n oc))
          rw [if_pos (by rfl)]
          refine wp_store_row 30 (.tmp 18) (.tmp 96) rfl gA (jobC e.J (.slice oa e.n oc)) rfl rfl 30 _ hx0 szJob rfl (oneJob _ _ _ _) ?_
          refine hK.out _ _ hB1 (fun _ => ?_)
          generalize hW_ : w9.setRow gA (jobC e.J (.slice oa e.n oc)) = wS at hx1 hB1 ho1 hy1 ⊢
          clear hW_ hog hiy hx0 hBW
          clear hK K
          (try simp only [Act.put, aT, aZ, aS])
          refine wpAnyH_ready (rs := [12]) (by kernel_rfl) (by simp) ?_
          refine AllReadyH.cons rfl (fun K hK => ?_) ?_
          · go_simp
            refine hK.out _ _ hB1 (fun _ => ?_)
            clear hK K
            (try simp only [Act.put, aT, aZ, aS])
            refine wpAnyH_done (by kernel_rfl) ?_ _
            exact ⟨rfl, _, _, _, _, _, _, _, _, _, _, gA, oa, oc, ya, yc, rfl, hB1, hx1, ho1, hy1⟩
          exact AllReadyH.nil
        exact AllReadyH.nil
      exact AllReadyH.nil
    exact AllReadyH.nil
  refine AllReadyH.cons rfl (fun K hK => ?_) ?_
  · have hx0 : Bk (wd.alloc (.cells (jobC zeroJ (.slice none 0 0)) 30)) wd.heap.size 30 (jobC zeroJ (.slice none 0 0)) := Bk.new _ _ _
    have hgl : w.heap.size ≤ wd.heap.size := hBW.size
    have hBW_ := (hBW.alloc hBW.size (.cells (jobC zeroJ (.slice none 0 0)) 30) : Below w.heap.size w (wd.alloc (.cells (jobC zeroJ (.slice none 0 0)) 30)))
    clear hBW
    have hBW := hBW_
    clear hBW_
    go_simp
    show K _ (wd.alloc (.cells (jobC zeroJ (.slice none 0 0)) 30))
    refine hK.out _ _ hBW (fun _ => ?_)
    generalize hW_ : (wd.alloc (.cells (jobC zeroJ (.slice none 0 0)) 30)) = wA at hx0 hBW ⊢
    clear hW_
    generalize hG_ : wd.heap.size = gA at hx0 hgl ⊢
    clear hG_
    clear hK K
    (try simp only [Act.put, aT, aZ, aS])
    refine wpAnyH_ready (rs := [4]) (by kernel_rfl) (by simp) ?_
    refine AllReadyH.cons rfl (fun K hK => ?_) ?_
    · go_simp
      go_at_call 8
      refine (copyJobR_any e.J e.a e.n e.c _ HEN.out (by omega) (HRG.out.up hBW)).mono ?_
      rintro e' w4 ⟨oa, oc, rfl, hog, hb4, hfO⟩
      have hBW_ := hBW.trans (hb4.mono hBW.size)
      clear hBW
      have hBW := hBW_
      clear hBW_
      have hneO : ∀ q off, oa = some ⟨q, off, none⟩ → q ≠ gA := fun q off e hq => by
        have h1 := (hfO q off e).1
        have h2 := hx0.lt
        omega
      have hx0_ := hx0.below hb4 hx0.lt
      clear hx0
      have hx0 := hx0_
      clear hx0_
      clear hb4
      go_wp2_with fail
      refine hK.out _ _ hBW (fun _ => ?_)
      clear hK K
      (try simp only [Act.put, aT, aZ, aS])
      refine wpAnyH_ready (rs := [9]) (by kernel_rfl) (by simp) ?_
      refine AllReadyH.cons rfl (fun K hK => ?_) ?_
      · go_simp
        go_at_call 21
        refine (ints_any x.a x.n x.c x.l _ HXN.out (by omega) (HIS.out.up hBW)).mono ?_
        rintro e' w9 ⟨ya, yc, rfl, hiy, hb9, hfY⟩
        have hz9 := hb9.size
        have hBW_ := hBW.trans (hb9.mono hBW.size)
        clear hBW
        have hBW := hBW_
        clear hBW_
        have hog_ := hog.up hb9
        clear hog
        have hog := hog_
        clear hog_
        have hneY : ∀ q off, ya = some ⟨q, off, none⟩ → q ≠ gA := fun q off e hq => by
          have h1 := (hfY q off e).1
          have h2 := hx0.lt
          omega
        have hx0_ := hx0.below hb9 hx0.lt
        clear hx0
        have hx0 := hx0_
        clear hx0_
        clear hb9
        go_wp2_with fail
        refine hK.out _ _ hBW (fun _ => ?_)
        clear hK K
        (try simp only [Act.put, aT, aZ, aS])
        refine wpAnyH_ready (rs := [11]) (by kernel_rfl) (by simp) ?_
        refine AllReadyH.cons rfl (fun K hK => ?_) ?_
        · have hx1 := hx0.row (jobC e.J (.slice oa e.n oc))
          have hB1 := below_setRow hBW hgl (jobC e.J (.slice oa e.n oc))
          have ho1 := Rg.rowKeep hog hneO (jobC e.J (.slice oa e.n oc))
          have hy1 := Is.rowKeep hiy hneY (jobC e.J (.slice oa e.n oc))
          rw [if_pos (by rfl)]
          refine wp_store_row 30 (.tmp 18) (.tmp 96) rfl gA (jobC e.J (.slice oa e.n oc)) rfl rfl 30 _ hx0 szJob rfl (oneJob _ _ _ _) ?_
          refine hK.out _ _ hB1 (fun _ => ?_)
          generalize hW_ : w9.setRow gA (jobC e.J (.slice oa e.n oc)) = wS at hx1 hB1 ho1 hy1 ⊢
          clear hW_ hog hiy hx0 hBW
          clear hK K
          (try simp only [Act.put, aT, aZ, aS])
          refine wpAnyH_ready (rs := [12]) (by kernel_rfl) (by simp) ?_
          refine AllReadyH.cons rfl (fun K hK => ?_) ?_
          · go_simp
            refine hK.out _ _ hB1 (fun _ => ?_)
            clear hK K
            (try simp only [Act.put, aT, aZ, aS])
            refine wpAnyH_done (by kernel_rfl) ?_ _
            exact ⟨rfl, _, _, _, _, _, _, _, _, _, _, gA, oa, oc, ya, yc, rfl, hB1, hx1, ho1, hy1⟩
          exact AllReadyH.nil
        exact AllReadyH.nil
      exact AllReadyH.nil
    exact AllReadyH.nil
  exact AllReadyH.nil
end Go.Proofs.Ytdficjnnlaicpaa
/- The law ReedStrokes: its loop and its end. -/
namespace Go.Proofs.Ytdficjnnlaicpaa
set_option linter.all false
open Go.RowKit
set_option maxHeartbeats 4000000 in
set_option maxRecDepth 1000000 in
theorem slpart9 {w0 w : World} {u0 u1 u2 u3 u4 u5 u6 u7 u8 u9 u10 u11 u12 u13 u14 u15 u16 u17 u18 u19 u20 u21 u22 u23 u24 u25 u26 u27 u28 u29 u30 u31 u32 u33 u34 u35 u36 u37 u38 u39 u40 u41 u42 u43 u44 u45 u46 u47 u48 u49 u50 u51 u52 u53 u54 u55 u56 u57 u58 u59 u60 u61 u62 u63 u64 u65 u66 u67 u68 u69 u70 u71 u72 u73 u74 u75 u76 u77 u78 u79 u80 u81 u82 u83 u84 u85 u86 u87 u88 u89 u90 u91 u92 u93 u94 u95 u96 u97 u98 u99 u100 u101 u102 u103 u104 u105 u106 u107 u108 u109 u110 u111 u112 u113 u114 u115 u116 u117 u118 u119 u120 u121 u122 u123 u124 u125 u126 u127 u128 u129 u130 u131 u132 u133 u134 u135 u136 u137 u138 u139 u140 u141 u142 u143 u144 u145 u146 u147 u148 u149 u150 u151 u152 u153 u154 u155 u156 u157 u158 u159 u160 u161 u162 u163 u164 u165 u166 u167 u168 u169 u170 u171 u172 u173 u174 u175 u176 u177 u178 u179 u180 u181 u182 u183 u184 u185 u186 u187 u188 u189 u190 u191 u192 u193 u194 u195 u196 u197 u198 u199 u200 u201 u202 u203 u204 u205 u206 u207 u208 u209 u210 u211 u212 u213 u214 u215 u216 u217 u218 u219 u220 u221 u222 u223 u224 u225 u226 u227 u228 u229 u230 : Value} (htun : TunOK) (hb0 : Below w0.heap.size w0 w) : Code.wp Try.prog slrest9 (QSL w0) ⟨#[u0, u1, u2, u3, u4, u5, u6, u7, u8, u9, u10, u11, u12, u13, u14, u15, u16, u17, u18, u19, u20, u21, u22, u23, u24, u25, u26, u27, u28, u29, u30, u31, u32, u33, u34, u35, u36, u37, u38, u39, u40, u41, u42, u43, u44, u45, u46, u47, u48, u49, u50, u51, u52, u53, u54, u55, u56, u57, u58, u59, u60, u61, u62, u63, u64, u65, u66, u67, u68, u69, u70, u71, u72, u73, u74, u75, u76, u77, u78, u79, u80, u81, u82, u83, u84, u85, u86, u87, u88, u89, u90, u91, u92, u93, u94, u95, u96, u97, u98, u99, u100, u101, u102, u103, u104, u105, u106, u107, u108, u109, u110, u111, u112, u113, u114, u115, u116, u117, u118, u119, u120, u121, u122, u123, u124, u125, u126, u127, u128, u129, u130, u131, u132, u133, u134, u135, u136, u137, u138, u139, u140, u141, u142, u143, u144, u145, u146, u147, u148, u149, u150, u151, u152, u153, u154, u155, u156, u157, u158, u159, u160, u161, u162, u163, u164, u165, u166, u167, u168, u169, u170, u171, u172, u173, u174, u175, u176, u177, u178, u179, u180, u181, u182, u183, u184, u185, u186, u187, u188, u189, u190, u191, u192, u193, u194, u195, u196, u197, u198, u199, u200, u201, u202, u203, u204, u205, u206, u207, u208, u209, u210, u211, u212, u213, u214, u215, u216, u217, u218, u219, u220, u221, u222, u223, u224, u225, u226, u227, u228, u229, u230], []⟩ w := by
  rw [slrest9_eq]
  have HT := hidMk htun
  unfold QSL
  go_wp2_with (go_at_call 5; refine (HT.out _).mono ?_; rintro e w2 ⟨rfl, hb⟩)
  go_ret
  exact ⟨rfl, hb0.trans (hb.mono hb0.size)⟩
set_option maxHeartbeats 4000000 in
set_option maxRecDepth 1000000 in
theorem slpart8 {w0 w1 : World} {g q : Nat} {es : List Ent} {ls : List Lst} {u0 u1 u2 u3 u4 u5 u6 u7 u8 u9 u10 u11 u12 u13 u14 u17 u18 u19 u20 u21 u22 u23 u24 u25 u26 u27 u28 u29 u30 u31 u32 u33 u34 u35 u36 u37 u38 u39 u40 u41 u42 u43 u44 u45 u46 u47 u48 u49 u50 u51 u52 u53 u54 u55 u56 u57 u58 u59 u60 u61 u62 u63 u64 u65 u66 u67 u68 u69 u70 u71 u72 u73 u74 u75 u76 u77 u78 u79 u80 u81 u82 u83 u84 u85 u86 u87 u88 u89 u90 u91 u92 u93 u94 u95 u96 u97 u98 u99 u100 u101 u102 u103 u104 u105 u106 u107 u108 u109 u110 u111 u112 u113 u114 u115 u116 u117 u118 u119 u120 u121 u122 u123 u124 u125 u126 u127 u128 u129 u130 u131 u132 u133 u134 u135 u136 u137 u138 u139 u140 u141 u142 u143 u144 u145 u146 u147 u148 u149 u150 u151 u152 u153 u154 u155 u156 u157 u158 u159 u160 u161 u162 u163 u164 u165 u166 u167 u168 u169 u170 u171 u172 u173 u174 u175 u176 u177 u178 u179 u180 u181 u182 u183 u184 u185 u186 u187 u188 u189 u190 u191 u192 u193 u194 u195 u196 u197 u198 u199 u200 u201 u202 u203 u204 u205 u206 u207 u208 u209 u210 u211 u212 u213 u214 u215 u216 u217 u218 u219 u220 u221 u222 u223 u224 u225 u226 u227 u228 u229 u230 : Value} (htun : TunF) (hs : SL w0 w1 g q es ls) : Code.wp Try.prog slrest8 (QSL w0) ⟨#[u0, u1, u2, u3, u4, u5, u6, u7, u8, u9, u10, u11, u12, u13, u14, (.slice (some ⟨g, 0, none⟩) 5 5), (.slice (some ⟨q, 0, none⟩) 5 5), u17, u18, u19, u20, u21, u22, u23, u24, u25, u26, u27, u28, u29, u30, u31, u32, u33, u34, u35, u36, u37, u38, u39, u40, u41, u42, u43, u44, u45, u46, u47, u48, u49, u50, u51, u52, u53, u54, u55, u56, u57, u58, u59, u60, u61, u62, u63, u64, u65, u66, u67, u68, u69, u70, u71, u72, u73, u74, u75, u76, u77, u78, u79, u80, u81, u82, u83, u84, u85, u86, u87, u88, u89, u90, u91, u92, u93, u94, u95, u96, u97, u98, u99, u100, u101, u102, u103, u104, u105, u106, u107, u108, u109, u110, u111, u112, u113, u114, u115, u116, u117, u118, u119, u120, u121, u122, u123, u124, u125, u126, u127, u128, u129, u130, u131, u132, u133, u134, u135, u136, u137, u138, u139, u140, u141, u142, u143, u144, u145, u146, u147, u148, u149, u150, u151, u152, u153, u154, u155, u156, u157, u158, u159, u160, u161, u162, u163, u164, u165, u166, u167, u168, u169, u170, u171, u172, u173, u174, u175, u176, u177, u178, u179, u180, u181, u182, u183, u184, u185, u186, u187, u188, u189, u190, u191, u192, u193, u194, u195, u196, u197, u198, u199, u200, u201, u202, u203, u204, u205, u206, u207, u208, u209, u210, u211, u212, u213, u214, u215, u216, u217, u218, u219, u220, u221, u222, u223, u224, u225, u226, u227, u228, u229, u230], []⟩ w1 := by
  have HT := hidMk htun.1
  have HS := hidMk hs
  have HF := hidMk htun.2
  clear htun hs
  rw [slrest8_cut]
  refine wp_seq_k fun K0 hK0 => ?_
  go_wp2_with fail
  refine wp_loop_rounds 6 ?_
  have HB := hidMk (Below.refl w1.heap.size w1)
  obtain ⟨e0, he0⟩ : ∃ e, es[0]? = some e := ⟨es[0]'(by rw [HS.out.len]; decide), List.getElem?_eq_getElem _⟩
  obtain ⟨x0, hx0⟩ : ∃ x, ls[0]? = some x := ⟨ls[0]'(by rw [HS.out.llen]; decide), List.getElem?_eq_getElem _⟩
  have HE0 := hidMk he0
  have HX0 := hidMk hx0
  clear he0 hx0
  obtain ⟨e1, he1⟩ : ∃ e, es[1]? = some e := ⟨es[1]'(by rw [HS.out.len]; decide), List.getElem?_eq_getElem _⟩
  obtain ⟨x1, hx1⟩ : ∃ x, ls[1]? = some x := ⟨ls[1]'(by rw [HS.out.llen]; decide), List.getElem?_eq_getElem _⟩
  have HE1 := hidMk he1
  have HX1 := hidMk hx1
  clear he1 hx1
  obtain ⟨e2, he2⟩ : ∃ e, es[2]? = some e := ⟨es[2]'(by rw [HS.out.len]; decide), List.getElem?_eq_getElem _⟩
  obtain ⟨x2, hx2⟩ : ∃ x, ls[2]? = some x := ⟨ls[2]'(by rw [HS.out.llen]; decide), List.getElem?_eq_getElem _⟩
  have HE2 := hidMk he2
  have HX2 := hidMk hx2
  clear he2 hx2
  obtain ⟨e3, he3⟩ : ∃ e, es[3]? = some e := ⟨es[3]'(by rw [HS.out.len]; decide), List.getElem?_eq_getElem _⟩
  obtain ⟨x3, hx3⟩ : ∃ x, ls[3]? = some x := ⟨ls[3]'(by rw [HS.out.llen]; decide), List.getElem?_eq_getElem _⟩
  have HE3 := hidMk he3
  have HX3 := hidMk hx3
  clear he3 hx3
  obtain ⟨e4, he4⟩ : ∃ e, es[4]? = some e := ⟨es[4]'(by rw [HS.out.len]; decide), List.getElem?_eq_getElem _⟩
  obtain ⟨x4, hx4⟩ : ∃ x, ls[4]? = some x := ⟨ls[4]'(by rw [HS.out.llen]; decide), List.getElem?_eq_getElem _⟩
  have HE4 := hidMk he4
  have HX4 := hidMk hx4
  clear he4 hx4
  rw [rounds_succ]
  go_wp2_with fail
  refine lbp0 (k := 0) HF.out HS.out HE0.out HX0.out (by decide) ?_ HB.out
  clear HB
  unfold LQ
  intros
  rename_i hB'
  have HB := hidMk hB'
  clear hB'
  go_wp2_with fail
  rw [rounds_succ]
  go_wp2_with fail
  refine lbp0 (k := 1) HF.out HS.out HE1.out HX1.out (by decide) ?_ HB.out
  clear HB
  unfold LQ
  intros
  rename_i hB'
  have HB := hidMk hB'
  clear hB'
  go_wp2_with fail
  rw [rounds_succ]
  go_wp2_with fail
  refine lbp0 (k := 2) HF.out HS.out HE2.out HX2.out (by decide) ?_ HB.out
  clear HB
  unfold LQ
  intros
  rename_i hB'
  have HB := hidMk hB'
  clear hB'
  go_wp2_with fail
  rw [rounds_succ]
  go_wp2_with fail
  refine lbp0 (k := 3) HF.out HS.out HE3.out HX3.out (by decide) ?_ HB.out
  clear HB
  unfold LQ
  intros
  rename_i hB'
  have HB := hidMk hB'
  clear hB'
  go_wp2_with fail
  rw [rounds_succ]
  go_wp2_with fail
  refine lbp0 (k := 4) HF.out HS.out HE4.out HX4.out (by decide) ?_ HB.out
  clear HB
  unfold LQ
  intros
  rename_i hB'
  have HB := hidMk hB'
  clear hB'
  go_wp2_with fail
  rw [rounds_succ]
  go_wp2_with fail
  exact slpart9 HT.out (HS.out.b0.trans (HB.out.mono HS.out.b0.size))
end Go.Proofs.Ytdficjnnlaicpaa
/- The law ReedStrokes: the lists of jobs and strokes. -/
namespace Go.Proofs.Ytdficjnnlaicpaa
set_option linter.all false
open Go.RowKit
theorem run_row {P : Program} {op : Oper} {a : Act} {w : World} (ty : TypeId) (x : Operand) (ho : op.op = .load ty x)
    (g : Nat) (cs : Array Value) (hx : a.eval x = .pointer (some ⟨g, 0, none⟩)) (t : TypeId) (hg : Bk w g t cs) {fs : Array Field} (hu : P.underlying ty = some (.struct fs)) (hi : (P.info? ty).map (·.size) = some cs.size) : (execOp a.eval op).run P w = .ok (.value (.agg cs)) w := by
  unfold execOp
  simp only [ho, hx, Instr.loadAt, Instr.sureAddr, Sem.run_bind, Sem.run_pure, Result.andThen_ok, run_loadVar_row w g _ ty cs _ _ hg hu rfl hi]
set_option maxHeartbeats 4000000 in
set_option maxRecDepth 1000000 in
theorem slpart7 {w0 w : World} {g5 g12 b : Nat} {J M : Jb} {a : Option Addr} {n c : Nat} {ma : Option Addr} {mn mc : Nat} {sa : Option Addr} {sn sc : Nat} {sl : List Int} {oa : Option Addr} {on oc : Nat} {ol : List Int} {g14 N vc : Nat} {ll : List Int} {u0 u2 u3 u4 u6 u7 u8 u9 u10 u11 u15 u16 u17 u18 u19 u20 u21 u22 u23 u24 u25 u26 u27 u28 u29 u30 u31 u32 u33 u34 u35 u36 u37 u38 u39 u40 u41 u42 u43 u44 u45 u46 u47 u48 u49 u50 u51 u52 u53 u54 u55 u56 u57 u58 u59 u60 u61 u62 u63 u64 u65 u66 u67 u68 u69 u70 u71 u72 u73 u74 u75 u76 u77 u78 u79 u80 u81 u82 u83 u84 u85 u86 u87 u88 u89 u90 u91 u92 u93 u94 u95 u96 u97 u98 u99 u100 u101 u102 u103 u104 u105 u106 u107 u108 u109 u110 u111 u112 u113 u114 u115 u116 u117 u118 u119 u120 u121 u122 u123 u124 u125 u126 u127 u128 u129 u130 u131 u132 u133 u134 u135 u136 u137 u138 u139 u140 u141 u142 u143 u144 u145 u146 u147 u148 u149 u150 u151 u152 u153 u154 u155 u156 u157 u158 u159 u160 u161 u162 u163 u164 u165 u166 u167 u168 u169 u170 u171 u172 u173 u174 u175 u176 u177 u178 u179 u180 u181 u182 u183 u184 u185 u186 u187 u188 u189 u190 u191 u192 u193 u194 u195 u196 u197 u198 u199 u200 u201 u202 u203 u204 u205 u206 u207 u208 u209 u210 u211 u212 u213 u214 u215 u216 u217 u218 u219 u220 u221 u222 u223 u224 u225 u226 u227 u228 u229 u230 : Value} (htun : TunF) (hs : S4 w0 w g5 g12 b J M a n c ma mn mc sa sn sl) (ho : Is w w.heap.size oa ol) (hon : on = ol.length) (hon6 : on ≤ 6) (hL : Is w w.heap.size (some ⟨g14, 0, none⟩) ll) (hll : N = ll.length) (hN7 : N ≤ 7) : Code.wp Try.prog slrest7 (QSL w0) ⟨#[u0, (.slice sa sn sc), u2, u3, u4, (.pointer (some ⟨g5, 0, none⟩)), u6, u7, u8, u9, u10, u11, (.pointer (some ⟨g12, 0, none⟩)), (.slice oa on oc), (.slice (some ⟨g14, 0, none⟩) N vc), u15, u16, u17, u18, u19, u20, u21, u22, u23, u24, u25, u26, u27, u28, u29, u30, u31, u32, u33, u34, u35, u36, u37, u38, u39, u40, u41, u42, u43, u44, u45, u46, u47, u48, u49, u50, u51, u52, u53, u54, u55, u56, u57, u58, u59, u60, u61, u62, u63, u64, u65, u66, u67, u68, u69, u70, u71, u72, u73, u74, u75, u76, u77, u78, u79, u80, u81, u82, u83, u84, u85, u86, u87, u88, u89, u90, u91, u92, u93, u94, u95, u96, u97, u98, u99, u100, u101, u102, u103, u104, u105, u106, u107, u108, u109, u110, u111, u112, u113, u114, u115, u116, u117, u118, u119, u120, u121, u122, u123, u124, u125, u126, u127, u128, u129, u130, u131, u132, u133, u134, u135, u136, u137, u138, u139, u140, u141, u142, u143, u144, u145, u146, u147, u148, u149, u150, u151, u152, u153, u154, u155, u156, u157, u158, u159, u160, u161, u162, u163, u164, u165, u166, u167, u168, u169, u170, u171, u172, u173, u174, u175, u176, u177, u178, u179, u180, u181, u182, u183, u184, u185, u186, u187, u188, u189, u190, u191, u192, u193, u194, u195, u196, u197, u198, u199, u200, u201, u202, u203, u204, u205, u206, u207, u208, u209, u210, u211, u212, u213, u214, u215, u216, u217, u218, u219, u220, u221, u222, u223, u224, u225, u226, u227, u228, u229, u230], []⟩ w := by
  rw [slrest7_eq]
  have HON := hidMk hon
  have HLL := hidMk hll
  have HSE := hidMk hs.se
  clear hon hll
  refine wp_seq_k fun K0 hK0 => ?_
  refine wp_region_l [0, 1, 2, 3, 4, 5, 6, 7, 8, 9, 10, 11, 12, 13] (by kernel_rfl) ?_
  refine opsL_take (o := ⟨some 74, .load 30 (.tmp 5), 30, "law.go:56", #[], none⟩) (v := .agg (jobC J (.slice a n c))) rfl (by rfl) (run_row 30 _ rfl g5 _ rfl 30 hs.job Try.underlying30 szJob) ?_
  (try simp only [Act.put, aT, aZ, aS])
  refine opsL_take (o := ⟨some 75, .load 30 (.tmp 12), 30, "law.go:56", #[], none⟩) (v := .agg (jobC M (.slice ma mn mc))) rfl (by rfl) (run_row 30 _ rfl g12 _ rfl 30 hs.mj Try.underlying30 szJob) ?_
  (try simp only [Act.put, aT, aZ, aS])
  refine opsL_take (o := ⟨some 76, .load 30 (.tmp 12), 30, "law.go:56", #[], none⟩) (v := .agg (jobC M (.slice ma mn mc))) rfl (by rfl) (run_row 30 _ rfl g12 _ rfl 30 hs.mj Try.underlying30 szJob) ?_
  (try simp only [Act.put, aT, aZ, aS])
  refine opsL_take (o := ⟨some 77, .load 30 (.tmp 12), 30, "law.go:56", #[], none⟩) (v := .agg (jobC M (.slice ma mn mc))) rfl (by rfl) (run_row 30 _ rfl g12 _ rfl 30 hs.mj Try.underlying30 szJob) ?_
  (try simp only [Act.put, aT, aZ, aS])
  refine opsL_take (o := ⟨some 78, .load 30 (.tmp 5), 30, "law.go:56", #[], none⟩) (v := .agg (jobC J (.slice a n c))) rfl (by rfl) (run_row 30 _ rfl g5 _ rfl 30 hs.job Try.underlying30 szJob) ?_
  (try simp only [Act.put, aT, aZ, aS])
  refine opsL_step (o := ⟨some 79, .buildSlice 37 5 #[(0, .tmp 74), (1, .tmp 75), (2, .tmp 76), (3, .tmp 77), (4, .tmp 78)], 37, "law.go:56", #[⟨0, .data⟩, ⟨1, .data⟩, ⟨2, .data⟩, ⟨3, .data⟩, ⟨4, .data⟩], none⟩) rfl (fun K hK => ?_)
  have hA : Bk (w.alloc (.cells (([⟨J, a, n, c⟩, ⟨M, ma, mn, mc⟩, ⟨M, ma, mn, mc⟩, ⟨M, ma, mn, mc⟩, ⟨J, a, n, c⟩] : List Ent).flatMap fun e => e.V.toList).toArray 30)) w.heap.size 30 (([⟨J, a, n, c⟩, ⟨M, ma, mn, mc⟩, ⟨M, ma, mn, mc⟩, ⟨M, ma, mn, mc⟩, ⟨J, a, n, c⟩] : List Ent).flatMap fun e => e.V.toList).toArray := Bk.new _ _ _
  have al1 : Below w.heap.size w (w.alloc (.cells (([⟨J, a, n, c⟩, ⟨M, ma, mn, mc⟩, ⟨M, ma, mn, mc⟩, ⟨M, ma, mn, mc⟩, ⟨J, a, n, c⟩] : List Ent).flatMap fun e => e.V.toList).toArray 30)) := (Below.refl _ _).alloc (Nat.le_refl _) _
  go_simp
  show K _ (w.alloc (.cells (([⟨J, a, n, c⟩, ⟨M, ma, mn, mc⟩, ⟨M, ma, mn, mc⟩, ⟨M, ma, mn, mc⟩, ⟨J, a, n, c⟩] : List Ent).flatMap fun e => e.V.toList).toArray 30))
  refine hK.out _ _ ?_
  generalize hW_ : w.alloc (.cells (([⟨J, a, n, c⟩, ⟨M, ma, mn, mc⟩, ⟨M, ma, mn, mc⟩, ⟨M, ma, mn, mc⟩, ⟨J, a, n, c⟩] : List Ent).flatMap fun e => e.V.toList).toArray 30) = wA at hA al1 ⊢
  clear hW_
  clear hK K
  (try simp only [Act.put, aT, aZ, aS])
  refine opsL_take (o := ⟨some 80, .move (.tmp 1), 31, "law.go:56", #[⟨12, .gcOnly .lateStores⟩], none⟩) (v := ?_) rfl (by rfl) ?_ ?_
  rotate_left
  · (skip; go_simp <;> with_reducible rfl)
  (try simp only [Act.put, aT, aZ, aS])
  refine opsL_take (o := ⟨some 81, .move (.tmp 13), 31, "law.go:56", #[⟨12, .gcOnly .lateStores⟩], none⟩) (v := ?_) rfl (by rfl) ?_ ?_
  rotate_left
  · (skip; go_simp <;> with_reducible rfl)
  (try simp only [Act.put, aT, aZ, aS])
  refine opsL_take (o := ⟨some 82, .move (.tmp 14), 31, "law.go:56", #[⟨12, .gcOnly .lateStores⟩], none⟩) (v := ?_) rfl (by rfl) ?_ ?_
  rotate_left
  · (skip; go_simp <;> with_reducible rfl)
  (try simp only [Act.put, aT, aZ, aS])
  refine opsL_take (o := ⟨some 83, .move (.tmp 1), 31, "law.go:56", #[⟨12, .gcOnly .lateStores⟩], none⟩) (v := ?_) rfl (by rfl) ?_ ?_
  rotate_left
  · (skip; go_simp <;> with_reducible rfl)
  (try simp only [Act.put, aT, aZ, aS])
  refine opsL_take (o := ⟨some 84, .move (.tmp 13), 31, "law.go:56", #[⟨12, .gcOnly .lateStores⟩], none⟩) (v := ?_) rfl (by rfl) ?_ ?_
  rotate_left
  · (skip; go_simp <;> with_reducible rfl)
  (try simp only [Act.put, aT, aZ, aS])
  refine opsL_step (o := ⟨some 85, .buildSlice 49 5 #[(0, .tmp 80), (1, .tmp 81), (2, .tmp 82), (3, .tmp 83), (4, .tmp 84)], 49, "law.go:56", #[⟨6, .data⟩, ⟨7, .data⟩, ⟨8, .data⟩, ⟨9, .data⟩, ⟨10, .data⟩, ⟨12, .gcOnly .lateStores⟩], none⟩) rfl (fun K hK => ?_)
  have hI : Bk (wA.alloc (.cells (([⟨sl, sa, sn, sc⟩, ⟨ol, oa, on, oc⟩, ⟨ll, some ⟨g14, 0, none⟩, N, vc⟩, ⟨sl, sa, sn, sc⟩, ⟨ol, oa, on, oc⟩] : List Lst).map Lst.V).toArray 31)) wA.heap.size 31 (([⟨sl, sa, sn, sc⟩, ⟨ol, oa, on, oc⟩, ⟨ll, some ⟨g14, 0, none⟩, N, vc⟩, ⟨sl, sa, sn, sc⟩, ⟨ol, oa, on, oc⟩] : List Lst).map Lst.V).toArray := Bk.new _ _ _
  have al2 : Below w.heap.size w (wA.alloc (.cells (([⟨sl, sa, sn, sc⟩, ⟨ol, oa, on, oc⟩, ⟨ll, some ⟨g14, 0, none⟩, N, vc⟩, ⟨sl, sa, sn, sc⟩, ⟨ol, oa, on, oc⟩] : List Lst).map Lst.V).toArray 31)) := al1.alloc al1.size _
  have hA2 := hA.alloc (.cells (([⟨sl, sa, sn, sc⟩, ⟨ol, oa, on, oc⟩, ⟨ll, some ⟨g14, 0, none⟩, N, vc⟩, ⟨sl, sa, sn, sc⟩, ⟨ol, oa, on, oc⟩] : List Lst).map Lst.V).toArray 31)
  go_simp
  show K _ (wA.alloc (.cells (([⟨sl, sa, sn, sc⟩, ⟨ol, oa, on, oc⟩, ⟨ll, some ⟨g14, 0, none⟩, N, vc⟩, ⟨sl, sa, sn, sc⟩, ⟨ol, oa, on, oc⟩] : List Lst).map Lst.V).toArray 31))
  refine hK.out _ _ ?_
  generalize hW_ : wA.alloc (.cells (([⟨sl, sa, sn, sc⟩, ⟨ol, oa, on, oc⟩, ⟨ll, some ⟨g14, 0, none⟩, N, vc⟩, ⟨sl, sa, sn, sc⟩, ⟨ol, oa, on, oc⟩] : List Lst).map Lst.V).toArray 31) = wB at hI al2 hA2 ⊢
  clear hW_
  clear hK K
  (try simp only [Act.put, aT, aZ, aS])
  refine opsL_take (o := ⟨some 15, .assign (.tmp 79), 37, "law.go:56", #[⟨5, .data⟩, ⟨0, .phase⟩, ⟨1, .phase⟩, ⟨2, .phase⟩, ⟨3, .phase⟩, ⟨4, .phase⟩, ⟨5, .phase⟩, ⟨6, .textOnly .lateStores⟩, ⟨7, .textOnly .lateStores⟩, ⟨8, .textOnly .lateStores⟩, ⟨9, .textOnly .lateStores⟩, ⟨10, .textOnly .lateStores⟩, ⟨11, .textOnly .lateStores⟩], none⟩) (v := ?_) rfl (by rfl) ?_ ?_
  rotate_left
  · (skip; go_simp <;> with_reducible rfl)
  (try simp only [Act.put, aT, aZ, aS])
  refine opsL_take (o := ⟨some 16, .assign (.tmp 85), 49, "law.go:56", #[⟨11, .data⟩, ⟨12, .chain⟩, ⟨0, .phase⟩, ⟨1, .phase⟩, ⟨2, .phase⟩, ⟨3, .phase⟩, ⟨4, .phase⟩, ⟨5, .phase⟩, ⟨6, .phase⟩, ⟨7, .phase⟩, ⟨8, .phase⟩, ⟨9, .phase⟩, ⟨10, .phase⟩, ⟨11, .phase⟩, ⟨12, .phase⟩], none⟩) (v := ?_) rfl (by rfl) ?_ ?_
  rotate_left
  · (skip; go_simp <;> with_reducible rfl)
  (try simp only [Act.put, aT, aZ, aS])
  refine hK0 _ _ ?_
  refine slpart8 (es := [⟨J, a, n, c⟩, ⟨M, ma, mn, mc⟩, ⟨M, ma, mn, mc⟩, ⟨M, ma, mn, mc⟩, ⟨J, a, n, c⟩]) (ls := [⟨sl, sa, sn, sc⟩, ⟨ol, oa, on, oc⟩, ⟨ll, some ⟨g14, 0, none⟩, N, vc⟩, ⟨sl, sa, sn, sc⟩, ⟨ol, oa, on, oc⟩]) htun ⟨hs.b0.trans (al2.mono hs.b0.size), hA2, hI, rfl, rfl, ?_, ?_⟩
  · have hm4 : mn ≤ 30 := by have h4 := (check_ok hs.ck).inn.len; have := hs.me; omega
    have q1 := hs.rg.up al2
    have q2 := hs.mg.up al2
    have q3 : n ≤ 30 := by have := hs.n20; omega
    intro e he
    simp only [List.mem_cons, List.not_mem_nil, or_false] at he
    rcases he with rfl | rfl | rfl | rfl | rfl
    · exact ⟨q1, hs.en, q3⟩
    · exact ⟨q2, hs.me, hm4⟩
    · exact ⟨q2, hs.me, hm4⟩
    · exact ⟨q2, hs.me, hm4⟩
    · exact ⟨q1, hs.en, q3⟩
  · have q1 := hs.st.up al2
    have q2 := ho.up al2
    have q3 := hL.up al2
    have q4 : sn ≤ 30 := by have := hs.s20; omega
    have q5 : on ≤ 30 := by omega
    have q6 : N ≤ 30 := by omega
    intro x hx
    simp only [List.mem_cons, List.not_mem_nil, or_false] at hx
    rcases hx with rfl | rfl | rfl | rfl | rfl
    · exact ⟨q1, hs.se, q4⟩
    · exact ⟨q2, HON.out, q5⟩
    · exact ⟨q3, HLL.out, q6⟩
    · exact ⟨q1, hs.se, q4⟩
    · exact ⟨q2, HON.out, q5⟩
end Go.Proofs.Ytdficjnnlaicpaa
