/- Part 32 of the proof: StkF. -/
import Derived.Deep.WholeRow
import Derived.Test.YtdficjnnlaicpaaT31
import Derived.Test.YtdficjnnlaicpaaT13
/- The law ReedStrokes: the loop, its middle. -/
namespace Go.Proofs.Ytdficjnnlaicpaa
set_option linter.all false
open Go.RowKit
set_option maxHeartbeats 4000000 in
set_option maxRecDepth 1000000 in
theorem lbp8 {w1 : World} {g q : Nat} {es : List Ent} {ls : List Lst} {w0 : World} {k : Nat} {e : Ent} {x : Lst} {Q : Exit → Act → World → Prop} {oa : Option Addr} {oc g18 : Nat} {ya : Option Addr} {yc : Nat} {g20 : Nat} {g22 : Nat} {w : World} {u0 u1 u2 u3 u4 u5 u6 u7 u8 u9 u10 u11 u12 u13 u14 u34 u35 u36 u37 u38 u39 u40 u41 u42 u43 u44 u45 u46 u47 u48 u49 u50 u51 u52 u53 u54 u55 u56 u57 u58 u59 u60 u61 u62 u63 u64 u65 u66 u67 u68 u69 u70 u71 u72 u73 u74 u75 u76 u77 u78 u79 u80 u81 u82 u83 u84 u85 u86 u87 u88 u89 u90 u91 u92 u93 u94 u95 u96 u97 u98 u99 u100 u101 u102 u103 u104 u105 u106 u107 u108 u109 u110 u111 u112 u113 u114 u115 u116 u117 u118 u119 u120 u121 u122 u123 u124 u125 u126 u127 u128 u129 u130 u131 u132 u133 u134 u135 u136 u137 u138 u139 u140 u141 u142 u143 u144 u145 u146 u147 u148 u149 u150 u151 u152 u153 u154 u155 u156 u157 u158 u159 u160 u161 u162 u163 u164 u165 u166 u167 u168 u169 u170 u171 u172 u173 u174 u175 u176 u177 u178 u179 u180 u181 u182 u183 u184 u185 u186 u187 u188 u189 u190 u191 u192 u193 u194 u195 u196 u197 u198 u199 u200 u201 u202 u203 u204 u205 u206 u207 u208 u209 u210 u211 u212 u213 u214 u215 u216 u217 u218 u219 u220 u221 u222 u223 u224 u225 u226 u227 u228 u229 u230 : Value} (hs : SL w0 w1 g q es ls) (hk : es[k]? = some e) (hx : ls[k]? = some x) (hk5 : k < 5) (hQ : LQ Q w1 g q k) (hB : Below w1.heap.size w1 w) (h18 : Bk w g18 30 (jobC e.J (.slice oa e.n oc))) (ho : Rg w w.heap.size oa e.J.sh) (hy : Is w w.heap.size ya x.l) (h20 : Bk w g20 25 (tonC (afterT e.J x.l))) (h22 : Bk w g22 25 (tonC (afterT e.J x.l))) : Code.wp Try.prog lb8 Q ⟨#[u0, u1, u2, u3, u4, u5, u6, u7, u8, u9, u10, u11, u12, u13, u14, (.slice (some ⟨g, 0, none⟩) 5 5), (.slice (some ⟨q, 0, none⟩) 5 5), (.int .i64 ↑k), (.pointer (some ⟨g18, 0, none⟩)), (.slice ya x.n yc), (.pointer (some ⟨g20, 0, none⟩)), (.int .i64 (filedE e.J x.l)), (.pointer (some ⟨g22, 0, none⟩)), (.int .i64 (filedE e.J x.l)), (.int .i64 (worstX e.J x.l).1), (.int .i64 (worstX e.J x.l).2), (.int .i64 (worstX e.J x.l).1), (.int .i64 (worstX e.J x.l).2), (.int .i64 (spoilX e.J x.l).1), (.int .i64 (spoilX e.J x.l).2), (.int .i64 (spoilX e.J x.l).1), (.int .i64 (spoilX e.J x.l).2), (.int .i64 (fineX e.J x.l).1), (.int .i64 (fineX e.J x.l).2), u34, u35, u36, u37, u38, u39, u40, u41, u42, u43, u44, u45, u46, u47, u48, u49, u50, u51, u52, u53, u54, u55, u56, u57, u58, u59, u60, u61, u62, u63, u64, u65, u66, u67, u68, u69, u70, u71, u72, u73, u74, u75, u76, u77, u78, u79, u80, u81, u82, u83, u84, u85, u86, u87, u88, u89, u90, u91, u92, u93, u94, u95, u96, u97, u98, u99, u100, u101, u102, u103, u104, u105, u106, u107, u108, u109, u110, u111, u112, u113, u114, u115, u116, u117, u118, u119, u120, u121, u122, u123, u124, u125, u126, u127, u128, u129, u130, u131, u132, u133, u134, u135, u136, u137, u138, u139, u140, u141, u142, u143, u144, u145, u146, u147, u148, u149, u150, u151, u152, u153, u154, u155, u156, u157, u158, u159, u160, u161, u162, u163, u164, u165, u166, u167, u168, u169, u170, u171, u172, u173, u174, u175, u176, u177, u178, u179, u180, u181, u182, u183, u184, u185, u186, u187, u188, u189, u190, u191, u192, u193, u194, u195, u196, u197, u198, u199, u200, u201, u202, u203, u204, u205, u206, u207, u208, u209, u210, u211, u212, u213, u214, u215, u216, u217, u218, u219, u220, u221, u222, u223, u224, u225, u226, u227, u228, u229, u230], []⟩ w := by
  rw [lb8_eq]
  obtain ⟨hrg, hen, hen30⟩ := hs.each e (List.mem_of_getElem? hk)
  obtain ⟨hxi, hxn, hxn30⟩ := hs.lach x (List.mem_of_getElem? hx)
  have HEN := hidMk hen
  have HXN := hidMk hxn
  have HRG := hidMk (hrg.up hB)
  have HIS := hidMk (hxi.up hB)
  have HS := hidMk hs
  have HQ := hidMk hQ
  have HR := hidMk (hs.row hk hB)
  have HB := hidMk hB
  have HK := hidMk hk
  have HX := hidMk hx
  have hwz := hB.size
  have hnm : e.n ≤ 9223372036854775807 := by omega
  have hxm : x.n ≤ 9223372036854775807 := by omega
  have H18 := hidMk h18
  have HO := hidMk ho
  have HY := hidMk hy
  have H20 := hidMk h20
  have H22 := hidMk h22
  clear h18 ho hy h20 h22
  clear hs hQ hB hk hx hrg hen hxi hxn
  have hki : (0 : Int) ≤ (k : Int) := by omega
  have hki2 : (k : Int) < 5 := by omega
  refine wp_seq_k fun K0 hK0 => ?_
  refine region_via (R := fun a_ e_ a' w' => e_ = .normal ∧ ∃ (v163 v164 v165 v166 v167 v168 v169 v170 v171 v162 v172 v173 : Value), a' = ((((((((((((((a_.put (some 163) v163).put (some 164) v164).put (some 165) v165).put (some 166) v166).put (some 167) v167).put (some 168) v168).put (some 169) v169).put (some 170) v170).put (some 171) v171).put (some 162) v162).put (some 172) v172).put (some 173) v173).put (some 34) (.int .i64 (fineX e.J x.l).1)).put (some 35) (.int .i64 (fineX e.J x.l).2)) ∧ Below w.heap.size w w') ?_ ?_
  rotate_left
  · rintro e_ a' w' ⟨rfl, v163, v164, v165, v166, v167, v168, v169, v170, v171, v162, v172, v173, rfl, al⟩
    refine hK0 _ _ ?_
    simp only [Act.put, aT, aZ, aS]
    have HB2 := hidMk (HB.out.trans (al.mono hwz))
    have H18' := hidMk (H18.out.below al H18.out.lt)
    have HO' := hidMk (HO.out.up al)
    have HY' := hidMk (HY.out.up al)
    have H20' := hidMk (H20.out.below al H20.out.lt)
    have H22' := hidMk (H22.out.below al H22.out.lt)
    exact lbp9 HS.out HK.out HX.out hk5 HQ.out HB2.out H18'.out HO'.out HY'.out H20'.out H22'.out
  have hBW : Below w.heap.size w w.drew := (Below.refl _ _).drew
  refine wp_region_held_drew (S := fun w' => Below w.heap.size w w') (by kernel_rfl) hBW (fun hS0 => ?_)
  generalize hWd : w.drew = wd at hS0 hBW ⊢
  clear hWd
  refine wpAnyH_take (i := 0) (v := ?_) rfl (by kernel_rfl) (by kernel_rfl) (by kernel_rfl) (fun _ _ _ h => by cases h.1) (.inl ⟨by rfl, ?_⟩) (by assumption) ?_
  rotate_left
  · (intro w' hSw; (try dsimp only at hSw); (have hrd := HS.out.rd HX.out (HB.out.trans (hSw.mono hwz))); go_simp <;> with_reducible rfl)
  (try simp only [Act.put, aT, aZ, aS])
  refine wpAnyH_take (i := 1) (v := ?_) rfl (by kernel_rfl) (by kernel_rfl) (by kernel_rfl) (fun _ _ _ h => by cases h.1) (.inl ⟨by rfl, ?_⟩) (by assumption) ?_
  rotate_left
  · (intro w' hSw; (try dsimp only at hSw); (have hrd := HS.out.rd HX.out (HB.out.trans (hSw.mono hwz))); go_simp <;> with_reducible rfl)
  (try simp only [Act.put, aT, aZ, aS])
  refine wpAnyH_take (i := 2) (v := ?_) rfl (by kernel_rfl) (by kernel_rfl) (by kernel_rfl) (fun _ _ _ h => by cases h.1) (.inl ⟨by rfl, ?_⟩) (by assumption) ?_
  rotate_left
  · (intro w' hSw; (try dsimp only at hSw); (have hrd := HS.out.rd HX.out (HB.out.trans (hSw.mono hwz))); go_simp <;> with_reducible rfl)
  (try simp only [Act.put, aT, aZ, aS])
  refine wpAnyH_take (i := 3) rfl (by kernel_rfl) (by kernel_rfl) (by kernel_rfl) (fun _ _ _ h => by cases h.1) (yields_mid (by rfl) 30 _ rfl g (k * 18) rfl (jobC e.J (.slice e.a e.n e.c)) _ (fun w' hw => HS.out.row HK.out (HB.out.trans (hw.mono hwz))) Try.underlying30 rfl szJob) (by assumption) ?_
  (try simp only [Act.put, aT, aZ, aS])
  refine wpAnyH_take (i := 4) (v := ?_) rfl (by kernel_rfl) (by kernel_rfl) (by kernel_rfl) (fun _ _ _ h => by cases h.1) (.inl ⟨by rfl, ?_⟩) (by assumption) ?_
  rotate_left
  · (intro w' hSw; (try dsimp only at hSw); (have hrd := HS.out.rd HX.out (HB.out.trans (hSw.mono hwz))); go_simp <;> with_reducible rfl)
  (try simp only [Act.put, aT, aZ, aS])
  refine wpAnyH_take (i := 5) (v := ?_) rfl (by kernel_rfl) (by kernel_rfl) (by kernel_rfl) (fun _ _ _ h => by cases h.1) (.inl ⟨by rfl, ?_⟩) (by assumption) ?_
  rotate_left
  · (intro w' hSw; (try dsimp only at hSw); (have hrd := HS.out.rd HX.out (HB.out.trans (hSw.mono hwz))); go_simp <;> with_reducible rfl)
  (try simp only [Act.put, aT, aZ, aS])
  refine wpAnyH_take (i := 6) (v := ?_) rfl (by kernel_rfl) (by kernel_rfl) (by kernel_rfl) (fun _ _ _ h => by cases h.1) (.inl ⟨by rfl, ?_⟩) (by assumption) ?_
  rotate_left
  · (intro w' hSw; (try dsimp only at hSw); (have hrd := HS.out.rd HX.out (HB.out.trans (hSw.mono hwz))); go_simp <;> with_reducible rfl)
  (try simp only [Act.put, aT, aZ, aS])
  refine wpAnyH_take (i := 7) (v := ?_) rfl (by kernel_rfl) (by kernel_rfl) (by kernel_rfl) (fun _ _ _ h => by cases h.1) (.inl ⟨by rfl, ?_⟩) (by assumption) ?_
  rotate_left
  · (intro w' hSw; (try dsimp only at hSw); (have hrd := HS.out.rd HX.out (HB.out.trans (hSw.mono hwz))); go_simp <;> with_reducible rfl)
  (try simp only [Act.put, aT, aZ, aS])
  refine wpAnyH_ready (rs := [8]) (by kernel_rfl) (by simp) ?_
  refine AllReadyH.cons rfl (fun K hK => ?_) ?_
  · go_simp
    go_at_call 29
    refine (refFineX_any e.J e.a e.n e.c x.a x.n x.c x.l _ HEN.out hnm (HRG.out.up hBW) HXN.out hxm (HIS.out.up hBW)).mono ?_
    rintro e' wX ⟨rfl, hbX⟩
    have hBW_ := hBW.trans (hbX.mono hBW.size)
    clear hBW
    have hBW := hBW_
    clear hBW_
    clear hbX
    go_wp2_with fail
    refine hK.out _ _ hBW (fun _ => ?_)
    clear hK K
    (try simp only [Act.put, aT, aZ, aS])
    refine wpAnyH_take (i := 9) (v := ?_) rfl (by kernel_rfl) (by kernel_rfl) (by kernel_rfl) (fun _ _ _ h => by cases h.1) (.inl ⟨by rfl, ?_⟩) (by assumption) ?_
    rotate_left
    · (intro w' hSw; (try dsimp only at hSw); (have hrd := HS.out.rd HX.out (HB.out.trans (hSw.mono hwz))); go_simp <;> with_reducible rfl)
    (try simp only [Act.put, aT, aZ, aS])
    refine wpAnyH_take (i := 10) (v := ?_) rfl (by kernel_rfl) (by kernel_rfl) (by kernel_rfl) (fun _ _ _ h => by cases h.1) (.inl ⟨by rfl, ?_⟩) (by assumption) ?_
    rotate_left
    · (intro w' hSw; (try dsimp only at hSw); (have hrd := HS.out.rd HX.out (HB.out.trans (hSw.mono hwz))); go_simp <;> with_reducible rfl)
    (try simp only [Act.put, aT, aZ, aS])
    refine wpAnyH_take (i := 11) (v := ?_) rfl (by kernel_rfl) (by kernel_rfl) (by kernel_rfl) (fun _ _ _ h => by cases h.1) (.inl ⟨by rfl, ?_⟩) (by assumption) ?_
    rotate_left
    · (intro w' hSw; (try dsimp only at hSw); (have hrd := HS.out.rd HX.out (HB.out.trans (hSw.mono hwz))); go_simp <;> with_reducible rfl)
    (try simp only [Act.put, aT, aZ, aS])
    refine wpAnyH_ready (rs := [12]) (by kernel_rfl) (by simp) ?_
    refine AllReadyH.cons rfl (fun K hK => ?_) ?_
    · go_simp
      refine hK.out _ _ hBW (fun _ => ?_)
      clear hK K
      (try simp only [Act.put, aT, aZ, aS])
      refine wpAnyH_ready (rs := [13]) (by kernel_rfl) (by simp) ?_
      refine AllReadyH.cons rfl (fun K hK => ?_) ?_
      · go_simp
        refine hK.out _ _ hBW (fun _ => ?_)
        clear hK K
        (try simp only [Act.put, aT, aZ, aS])
        refine wpAnyH_done (by kernel_rfl) ?_ _
        exact ⟨rfl, _, _, _, _, _, _, _, _, _, _, _, _, rfl, hBW⟩
      exact AllReadyH.nil
    exact AllReadyH.nil
  exact AllReadyH.nil
set_option maxHeartbeats 4000000 in
set_option maxRecDepth 1000000 in
theorem lbp7 {w1 : World} {g q : Nat} {es : List Ent} {ls : List Lst} {w0 : World} {k : Nat} {e : Ent} {x : Lst} {Q : Exit → Act → World → Prop} {oa : Option Addr} {oc g18 : Nat} {ya : Option Addr} {yc : Nat} {g20 : Nat} {g22 : Nat} {w : World} {u0 u1 u2 u3 u4 u5 u6 u7 u8 u9 u10 u11 u12 u13 u14 u32 u33 u34 u35 u36 u37 u38 u39 u40 u41 u42 u43 u44 u45 u46 u47 u48 u49 u50 u51 u52 u53 u54 u55 u56 u57 u58 u59 u60 u61 u62 u63 u64 u65 u66 u67 u68 u69 u70 u71 u72 u73 u74 u75 u76 u77 u78 u79 u80 u81 u82 u83 u84 u85 u86 u87 u88 u89 u90 u91 u92 u93 u94 u95 u96 u97 u98 u99 u100 u101 u102 u103 u104 u105 u106 u107 u108 u109 u110 u111 u112 u113 u114 u115 u116 u117 u118 u119 u120 u121 u122 u123 u124 u125 u126 u127 u128 u129 u130 u131 u132 u133 u134 u135 u136 u137 u138 u139 u140 u141 u142 u143 u144 u145 u146 u147 u148 u149 u150 u151 u152 u153 u154 u155 u156 u157 u158 u159 u160 u161 u162 u163 u164 u165 u166 u167 u168 u169 u170 u171 u172 u173 u174 u175 u176 u177 u178 u179 u180 u181 u182 u183 u184 u185 u186 u187 u188 u189 u190 u191 u192 u193 u194 u195 u196 u197 u198 u199 u200 u201 u202 u203 u204 u205 u206 u207 u208 u209 u210 u211 u212 u213 u214 u215 u216 u217 u218 u219 u220 u221 u222 u223 u224 u225 u226 u227 u228 u229 u230 : Value} (hfine : FineOK) (hs : SL w0 w1 g q es ls) (hk : es[k]? = some e) (hx : ls[k]? = some x) (hk5 : k < 5) (hQ : LQ Q w1 g q k) (hB : Below w1.heap.size w1 w) (h18 : Bk w g18 30 (jobC e.J (.slice oa e.n oc))) (ho : Rg w w.heap.size oa e.J.sh) (hy : Is w w.heap.size ya x.l) (h20 : Bk w g20 25 (tonC (afterT e.J x.l))) (h22 : Bk w g22 25 (tonC (afterT e.J x.l))) : Code.wp Try.prog lb7 Q ⟨#[u0, u1, u2, u3, u4, u5, u6, u7, u8, u9, u10, u11, u12, u13, u14, (.slice (some ⟨g, 0, none⟩) 5 5), (.slice (some ⟨q, 0, none⟩) 5 5), (.int .i64 ↑k), (.pointer (some ⟨g18, 0, none⟩)), (.slice ya x.n yc), (.pointer (some ⟨g20, 0, none⟩)), (.int .i64 (filedE e.J x.l)), (.pointer (some ⟨g22, 0, none⟩)), (.int .i64 (filedE e.J x.l)), (.int .i64 (worstX e.J x.l).1), (.int .i64 (worstX e.J x.l).2), (.int .i64 (worstX e.J x.l).1), (.int .i64 (worstX e.J x.l).2), (.int .i64 (spoilX e.J x.l).1), (.int .i64 (spoilX e.J x.l).2), (.int .i64 (spoilX e.J x.l).1), (.int .i64 (spoilX e.J x.l).2), u32, u33, u34, u35, u36, u37, u38, u39, u40, u41, u42, u43, u44, u45, u46, u47, u48, u49, u50, u51, u52, u53, u54, u55, u56, u57, u58, u59, u60, u61, u62, u63, u64, u65, u66, u67, u68, u69, u70, u71, u72, u73, u74, u75, u76, u77, u78, u79, u80, u81, u82, u83, u84, u85, u86, u87, u88, u89, u90, u91, u92, u93, u94, u95, u96, u97, u98, u99, u100, u101, u102, u103, u104, u105, u106, u107, u108, u109, u110, u111, u112, u113, u114, u115, u116, u117, u118, u119, u120, u121, u122, u123, u124, u125, u126, u127, u128, u129, u130, u131, u132, u133, u134, u135, u136, u137, u138, u139, u140, u141, u142, u143, u144, u145, u146, u147, u148, u149, u150, u151, u152, u153, u154, u155, u156, u157, u158, u159, u160, u161, u162, u163, u164, u165, u166, u167, u168, u169, u170, u171, u172, u173, u174, u175, u176, u177, u178, u179, u180, u181, u182, u183, u184, u185, u186, u187, u188, u189, u190, u191, u192, u193, u194, u195, u196, u197, u198, u199, u200, u201, u202, u203, u204, u205, u206, u207, u208, u209, u210, u211, u212, u213, u214, u215, u216, u217, u218, u219, u220, u221, u222, u223, u224, u225, u226, u227, u228, u229, u230], []⟩ w := by
  rw [lb7_eq]
  have HF := hidMk hfine
  clear hfine
  obtain ⟨hrg, hen, hen30⟩ := hs.each e (List.mem_of_getElem? hk)
  obtain ⟨hxi, hxn, hxn30⟩ := hs.lach x (List.mem_of_getElem? hx)
  have HEN := hidMk hen
  have HXN := hidMk hxn
  have HRG := hidMk (hrg.up hB)
  have HIS := hidMk (hxi.up hB)
  have HS := hidMk hs
  have HQ := hidMk hQ
  have HR := hidMk (hs.row hk hB)
  have HB := hidMk hB
  have HK := hidMk hk
  have HX := hidMk hx
  have hwz := hB.size
  have hnm : e.n ≤ 9223372036854775807 := by omega
  have hxm : x.n ≤ 9223372036854775807 := by omega
  have H18 := hidMk h18
  have HO := hidMk ho
  have HY := hidMk hy
  have H20 := hidMk h20
  have H22 := hidMk h22
  clear h18 ho hy h20 h22
  clear hs hQ hB hk hx hrg hen hxi hxn
  go_wp2_with (refine wpList_load_row rfl 30 _ rfl g18 rfl _ (jobC e.J (.slice oa e.n oc)) _ _ H18.out Try.underlying30 rfl szJob ?_)
  refine (fineF_any HF.out e.J oa e.n oc ya x.n yc x.l _ HEN.out hnm HO.out HXN.out hxm HY.out).mono ?_
  rintro e' w2 ⟨rfl, hb2⟩
  have HB2 := hidMk (HB.out.trans (hb2.mono hwz))
  have H18' := hidMk (H18.out.below hb2 H18.out.lt)
  have HO' := hidMk (HO.out.up hb2)
  have HY' := hidMk (HY.out.up hb2)
  have H20' := hidMk (H20.out.below hb2 H20.out.lt)
  have H22' := hidMk (H22.out.below hb2 H22.out.lt)
  clear hb2
  go_wp2_with fail
  exact lbp8 HS.out HK.out HX.out hk5 HQ.out HB2.out H18'.out HO'.out HY'.out H20'.out H22'.out
set_option maxHeartbeats 4000000 in
set_option maxRecDepth 1000000 in
theorem lbp6 {w1 : World} {g q : Nat} {es : List Ent} {ls : List Lst} {w0 : World} {k : Nat} {e : Ent} {x : Lst} {Q : Exit → Act → World → Prop} {oa : Option Addr} {oc g18 : Nat} {ya : Option Addr} {yc : Nat} {g20 : Nat} {g22 : Nat} {w : World} {u0 u1 u2 u3 u4 u5 u6 u7 u8 u9 u10 u11 u12 u13 u14 u30 u31 u32 u33 u34 u35 u36 u37 u38 u39 u40 u41 u42 u43 u44 u45 u46 u47 u48 u49 u50 u51 u52 u53 u54 u55 u56 u57 u58 u59 u60 u61 u62 u63 u64 u65 u66 u67 u68 u69 u70 u71 u72 u73 u74 u75 u76 u77 u78 u79 u80 u81 u82 u83 u84 u85 u86 u87 u88 u89 u90 u91 u92 u93 u94 u95 u96 u97 u98 u99 u100 u101 u102 u103 u104 u105 u106 u107 u108 u109 u110 u111 u112 u113 u114 u115 u116 u117 u118 u119 u120 u121 u122 u123 u124 u125 u126 u127 u128 u129 u130 u131 u132 u133 u134 u135 u136 u137 u138 u139 u140 u141 u142 u143 u144 u145 u146 u147 u148 u149 u150 u151 u152 u153 u154 u155 u156 u157 u158 u159 u160 u161 u162 u163 u164 u165 u166 u167 u168 u169 u170 u171 u172 u173 u174 u175 u176 u177 u178 u179 u180 u181 u182 u183 u184 u185 u186 u187 u188 u189 u190 u191 u192 u193 u194 u195 u196 u197 u198 u199 u200 u201 u202 u203 u204 u205 u206 u207 u208 u209 u210 u211 u212 u213 u214 u215 u216 u217 u218 u219 u220 u221 u222 u223 u224 u225 u226 u227 u228 u229 u230 : Value} (hfine : FineOK) (hs : SL w0 w1 g q es ls) (hk : es[k]? = some e) (hx : ls[k]? = some x) (hk5 : k < 5) (hQ : LQ Q w1 g q k) (hB : Below w1.heap.size w1 w) (h18 : Bk w g18 30 (jobC e.J (.slice oa e.n oc))) (ho : Rg w w.heap.size oa e.J.sh) (hy : Is w w.heap.size ya x.l) (h20 : Bk w g20 25 (tonC (afterT e.J x.l))) (h22 : Bk w g22 25 (tonC (afterT e.J x.l))) : Code.wp Try.prog lb6 Q ⟨#[u0, u1, u2, u3, u4, u5, u6, u7, u8, u9, u10, u11, u12, u13, u14, (.slice (some ⟨g, 0, none⟩) 5 5), (.slice (some ⟨q, 0, none⟩) 5 5), (.int .i64 ↑k), (.pointer (some ⟨g18, 0, none⟩)), (.slice ya x.n yc), (.pointer (some ⟨g20, 0, none⟩)), (.int .i64 (filedE e.J x.l)), (.pointer (some ⟨g22, 0, none⟩)), (.int .i64 (filedE e.J x.l)), (.int .i64 (worstX e.J x.l).1), (.int .i64 (worstX e.J x.l).2), (.int .i64 (worstX e.J x.l).1), (.int .i64 (worstX e.J x.l).2), (.int .i64 (spoilX e.J x.l).1), (.int .i64 (spoilX e.J x.l).2), u30, u31, u32, u33, u34, u35, u36, u37, u38, u39, u40, u41, u42, u43, u44, u45, u46, u47, u48, u49, u50, u51, u52, u53, u54, u55, u56, u57, u58, u59, u60, u61, u62, u63, u64, u65, u66, u67, u68, u69, u70, u71, u72, u73, u74, u75, u76, u77, u78, u79, u80, u81, u82, u83, u84, u85, u86, u87, u88, u89, u90, u91, u92, u93, u94, u95, u96, u97, u98, u99, u100, u101, u102, u103, u104, u105, u106, u107, u108, u109, u110, u111, u112, u113, u114, u115, u116, u117, u118, u119, u120, u121, u122, u123, u124, u125, u126, u127, u128, u129, u130, u131, u132, u133, u134, u135, u136, u137, u138, u139, u140, u141, u142, u143, u144, u145, u146, u147, u148, u149, u150, u151, u152, u153, u154, u155, u156, u157, u158, u159, u160, u161, u162, u163, u164, u165, u166, u167, u168, u169, u170, u171, u172, u173, u174, u175, u176, u177, u178, u179, u180, u181, u182, u183, u184, u185, u186, u187, u188, u189, u190, u191, u192, u193, u194, u195, u196, u197, u198, u199, u200, u201, u202, u203, u204, u205, u206, u207, u208, u209, u210, u211, u212, u213, u214, u215, u216, u217, u218, u219, u220, u221, u222, u223, u224, u225, u226, u227, u228, u229, u230], []⟩ w := by
  rw [lb6_eq]
  have HF := hidMk hfine
  clear hfine
  obtain ⟨hrg, hen, hen30⟩ := hs.each e (List.mem_of_getElem? hk)
  obtain ⟨hxi, hxn, hxn30⟩ := hs.lach x (List.mem_of_getElem? hx)
  have HEN := hidMk hen
  have HXN := hidMk hxn
  have HRG := hidMk (hrg.up hB)
  have HIS := hidMk (hxi.up hB)
  have HS := hidMk hs
  have HQ := hidMk hQ
  have HR := hidMk (hs.row hk hB)
  have HB := hidMk hB
  have HK := hidMk hk
  have HX := hidMk hx
  have hwz := hB.size
  have hnm : e.n ≤ 9223372036854775807 := by omega
  have hxm : x.n ≤ 9223372036854775807 := by omega
  have H18 := hidMk h18
  have HO := hidMk ho
  have HY := hidMk hy
  have H20 := hidMk h20
  have H22 := hidMk h22
  clear h18 ho hy h20 h22
  clear hs hQ hB hk hx hrg hen hxi hxn
  have hki : (0 : Int) ≤ (k : Int) := by omega
  have hki2 : (k : Int) < 5 := by omega
  refine wp_seq_k fun K0 hK0 => ?_
  refine region_via (R := fun a_ e_ a' w' => e_ = .normal ∧ ∃ (v145 v146 v147 v148 v149 v150 v151 v152 v153 v144 v154 v155 : Value), a' = ((((((((((((((a_.put (some 145) v145).put (some 146) v146).put (some 147) v147).put (some 148) v148).put (some 149) v149).put (some 150) v150).put (some 151) v151).put (some 152) v152).put (some 153) v153).put (some 144) v144).put (some 154) v154).put (some 155) v155).put (some 30) (.int .i64 (spoilX e.J x.l).1)).put (some 31) (.int .i64 (spoilX e.J x.l).2)) ∧ Below w.heap.size w w') ?_ ?_
  rotate_left
  · rintro e_ a' w' ⟨rfl, v145, v146, v147, v148, v149, v150, v151, v152, v153, v144, v154, v155, rfl, al⟩
    refine hK0 _ _ ?_
    simp only [Act.put, aT, aZ, aS]
    have HB2 := hidMk (HB.out.trans (al.mono hwz))
    have H18' := hidMk (H18.out.below al H18.out.lt)
    have HO' := hidMk (HO.out.up al)
    have HY' := hidMk (HY.out.up al)
    have H20' := hidMk (H20.out.below al H20.out.lt)
    have H22' := hidMk (H22.out.below al H22.out.lt)
    exact lbp7 HF.out HS.out HK.out HX.out hk5 HQ.out HB2.out H18'.out HO'.out HY'.out H20'.out H22'.out
  have hBW : Below w.heap.size w w.drew := (Below.refl _ _).drew
  refine wp_region_held_drew (S := fun w' => Below w.heap.size w w') (by kernel_rfl) hBW (fun hS0 => ?_)
  generalize hWd : w.drew = wd at hS0 hBW ⊢
  clear hWd
  refine wpAnyH_take (i := 0) (v := ?_) rfl (by kernel_rfl) (by kernel_rfl) (by kernel_rfl) (fun _ _ _ h => by cases h.1) (.inl ⟨by rfl, ?_⟩) (by assumption) ?_
  rotate_left
  · (intro w' hSw; (try dsimp only at hSw); (have hrd := HS.out.rd HX.out (HB.out.trans (hSw.mono hwz))); go_simp <;> with_reducible rfl)
  (try simp only [Act.put, aT, aZ, aS])
  refine wpAnyH_take (i := 1) (v := ?_) rfl (by kernel_rfl) (by kernel_rfl) (by kernel_rfl) (fun _ _ _ h => by cases h.1) (.inl ⟨by rfl, ?_⟩) (by assumption) ?_
  rotate_left
  · (intro w' hSw; (try dsimp only at hSw); (have hrd := HS.out.rd HX.out (HB.out.trans (hSw.mono hwz))); go_simp <;> with_reducible rfl)
  (try simp only [Act.put, aT, aZ, aS])
  refine wpAnyH_take (i := 2) (v := ?_) rfl (by kernel_rfl) (by kernel_rfl) (by kernel_rfl) (fun _ _ _ h => by cases h.1) (.inl ⟨by rfl, ?_⟩) (by assumption) ?_
  rotate_left
  · (intro w' hSw; (try dsimp only at hSw); (have hrd := HS.out.rd HX.out (HB.out.trans (hSw.mono hwz))); go_simp <;> with_reducible rfl)
  (try simp only [Act.put, aT, aZ, aS])
  refine wpAnyH_take (i := 3) rfl (by kernel_rfl) (by kernel_rfl) (by kernel_rfl) (fun _ _ _ h => by cases h.1) (yields_mid (by rfl) 30 _ rfl g (k * 18) rfl (jobC e.J (.slice e.a e.n e.c)) _ (fun w' hw => HS.out.row HK.out (HB.out.trans (hw.mono hwz))) Try.underlying30 rfl szJob) (by assumption) ?_
  (try simp only [Act.put, aT, aZ, aS])
  refine wpAnyH_take (i := 4) (v := ?_) rfl (by kernel_rfl) (by kernel_rfl) (by kernel_rfl) (fun _ _ _ h => by cases h.1) (.inl ⟨by rfl, ?_⟩) (by assumption) ?_
  rotate_left
  · (intro w' hSw; (try dsimp only at hSw); (have hrd := HS.out.rd HX.out (HB.out.trans (hSw.mono hwz))); go_simp <;> with_reducible rfl)
  (try simp only [Act.put, aT, aZ, aS])
  refine wpAnyH_take (i := 5) (v := ?_) rfl (by kernel_rfl) (by kernel_rfl) (by kernel_rfl) (fun _ _ _ h => by cases h.1) (.inl ⟨by rfl, ?_⟩) (by assumption) ?_
  rotate_left
  · (intro w' hSw; (try dsimp only at hSw); (have hrd := HS.out.rd HX.out (HB.out.trans (hSw.mono hwz))); go_simp <;> with_reducible rfl)
  (try simp only [Act.put, aT, aZ, aS])
  refine wpAnyH_take (i := 6) (v := ?_) rfl (by kernel_rfl) (by kernel_rfl) (by kernel_rfl) (fun _ _ _ h => by cases h.1) (.inl ⟨by rfl, ?_⟩) (by assumption) ?_
  rotate_left
  · (intro w' hSw; (try dsimp only at hSw); (have hrd := HS.out.rd HX.out (HB.out.trans (hSw.mono hwz))); go_simp <;> with_reducible rfl)
  (try simp only [Act.put, aT, aZ, aS])
  refine wpAnyH_take (i := 7) (v := ?_) rfl (by kernel_rfl) (by kernel_rfl) (by kernel_rfl) (fun _ _ _ h => by cases h.1) (.inl ⟨by rfl, ?_⟩) (by assumption) ?_
  rotate_left
  · (intro w' hSw; (try dsimp only at hSw); (have hrd := HS.out.rd HX.out (HB.out.trans (hSw.mono hwz))); go_simp <;> with_reducible rfl)
  (try simp only [Act.put, aT, aZ, aS])
  refine wpAnyH_ready (rs := [8]) (by kernel_rfl) (by simp) ?_
  refine AllReadyH.cons rfl (fun K hK => ?_) ?_
  · go_simp
    go_at_call 27
    refine (refSpoiledX_any e.J e.a e.n e.c x.a x.n x.c x.l _ HEN.out hnm (HRG.out.up hBW) HXN.out hxm (HIS.out.up hBW)).mono ?_
    rintro e' wX ⟨rfl, hbX⟩
    have hBW_ := hBW.trans (hbX.mono hBW.size)
    clear hBW
    have hBW := hBW_
    clear hBW_
    clear hbX
    go_wp2_with fail
    refine hK.out _ _ hBW (fun _ => ?_)
    clear hK K
    (try simp only [Act.put, aT, aZ, aS])
    refine wpAnyH_take (i := 9) (v := ?_) rfl (by kernel_rfl) (by kernel_rfl) (by kernel_rfl) (fun _ _ _ h => by cases h.1) (.inl ⟨by rfl, ?_⟩) (by assumption) ?_
    rotate_left
    · (intro w' hSw; (try dsimp only at hSw); (have hrd := HS.out.rd HX.out (HB.out.trans (hSw.mono hwz))); go_simp <;> with_reducible rfl)
    (try simp only [Act.put, aT, aZ, aS])
    refine wpAnyH_take (i := 10) (v := ?_) rfl (by kernel_rfl) (by kernel_rfl) (by kernel_rfl) (fun _ _ _ h => by cases h.1) (.inl ⟨by rfl, ?_⟩) (by assumption) ?_
    rotate_left
    · (intro w' hSw; (try dsimp only at hSw); (have hrd := HS.out.rd HX.out (HB.out.trans (hSw.mono hwz))); go_simp <;> with_reducible rfl)
    (try simp only [Act.put, aT, aZ, aS])
    refine wpAnyH_take (i := 11) (v := ?_) rfl (by kernel_rfl) (by kernel_rfl) (by kernel_rfl) (fun _ _ _ h => by cases h.1) (.inl ⟨by rfl, ?_⟩) (by assumption) ?_
    rotate_left
    · (intro w' hSw; (try dsimp only at hSw); (have hrd := HS.out.rd HX.out (HB.out.trans (hSw.mono hwz))); go_simp <;> with_reducible rfl)
    (try simp only [Act.put, aT, aZ, aS])
    refine wpAnyH_ready (rs := [12]) (by kernel_rfl) (by simp) ?_
    refine AllReadyH.cons rfl (fun K hK => ?_) ?_
    · go_simp
      refine hK.out _ _ hBW (fun _ => ?_)
      clear hK K
      (try simp only [Act.put, aT, aZ, aS])
      refine wpAnyH_ready (rs := [13]) (by kernel_rfl) (by simp) ?_
      refine AllReadyH.cons rfl (fun K hK => ?_) ?_
      · go_simp
        refine hK.out _ _ hBW (fun _ => ?_)
        clear hK K
        (try simp only [Act.put, aT, aZ, aS])
        refine wpAnyH_done (by kernel_rfl) ?_ _
        exact ⟨rfl, _, _, _, _, _, _, _, _, _, _, _, _, rfl, hBW⟩
      exact AllReadyH.nil
    exact AllReadyH.nil
  exact AllReadyH.nil
set_option maxHeartbeats 4000000 in
set_option maxRecDepth 1000000 in
theorem lbp5 {w1 : World} {g q : Nat} {es : List Ent} {ls : List Lst} {w0 : World} {k : Nat} {e : Ent} {x : Lst} {Q : Exit → Act → World → Prop} {oa : Option Addr} {oc g18 : Nat} {ya : Option Addr} {yc : Nat} {g20 : Nat} {g22 : Nat} {w : World} {u0 u1 u2 u3 u4 u5 u6 u7 u8 u9 u10 u11 u12 u13 u14 u28 u29 u30 u31 u32 u33 u34 u35 u36 u37 u38 u39 u40 u41 u42 u43 u44 u45 u46 u47 u48 u49 u50 u51 u52 u53 u54 u55 u56 u57 u58 u59 u60 u61 u62 u63 u64 u65 u66 u67 u68 u69 u70 u71 u72 u73 u74 u75 u76 u77 u78 u79 u80 u81 u82 u83 u84 u85 u86 u87 u88 u89 u90 u91 u92 u93 u94 u95 u96 u97 u98 u99 u100 u101 u102 u103 u104 u105 u106 u107 u108 u109 u110 u111 u112 u113 u114 u115 u116 u117 u118 u119 u120 u121 u122 u123 u124 u125 u126 u127 u128 u129 u130 u131 u132 u133 u134 u135 u136 u137 u138 u139 u140 u141 u142 u143 u144 u145 u146 u147 u148 u149 u150 u151 u152 u153 u154 u155 u156 u157 u158 u159 u160 u161 u162 u163 u164 u165 u166 u167 u168 u169 u170 u171 u172 u173 u174 u175 u176 u177 u178 u179 u180 u181 u182 u183 u184 u185 u186 u187 u188 u189 u190 u191 u192 u193 u194 u195 u196 u197 u198 u199 u200 u201 u202 u203 u204 u205 u206 u207 u208 u209 u210 u211 u212 u213 u214 u215 u216 u217 u218 u219 u220 u221 u222 u223 u224 u225 u226 u227 u228 u229 u230 : Value} (hfine : FineOK) (hs : SL w0 w1 g q es ls) (hk : es[k]? = some e) (hx : ls[k]? = some x) (hk5 : k < 5) (hQ : LQ Q w1 g q k) (hB : Below w1.heap.size w1 w) (h18 : Bk w g18 30 (jobC e.J (.slice oa e.n oc))) (ho : Rg w w.heap.size oa e.J.sh) (hy : Is w w.heap.size ya x.l) (h20 : Bk w g20 25 (tonC (afterT e.J x.l))) (h22 : Bk w g22 25 (tonC (afterT e.J x.l))) : Code.wp Try.prog lb5 Q ⟨#[u0, u1, u2, u3, u4, u5, u6, u7, u8, u9, u10, u11, u12, u13, u14, (.slice (some ⟨g, 0, none⟩) 5 5), (.slice (some ⟨q, 0, none⟩) 5 5), (.int .i64 ↑k), (.pointer (some ⟨g18, 0, none⟩)), (.slice ya x.n yc), (.pointer (some ⟨g20, 0, none⟩)), (.int .i64 (filedE e.J x.l)), (.pointer (some ⟨g22, 0, none⟩)), (.int .i64 (filedE e.J x.l)), (.int .i64 (worstX e.J x.l).1), (.int .i64 (worstX e.J x.l).2), (.int .i64 (worstX e.J x.l).1), (.int .i64 (worstX e.J x.l).2), u28, u29, u30, u31, u32, u33, u34, u35, u36, u37, u38, u39, u40, u41, u42, u43, u44, u45, u46, u47, u48, u49, u50, u51, u52, u53, u54, u55, u56, u57, u58, u59, u60, u61, u62, u63, u64, u65, u66, u67, u68, u69, u70, u71, u72, u73, u74, u75, u76, u77, u78, u79, u80, u81, u82, u83, u84, u85, u86, u87, u88, u89, u90, u91, u92, u93, u94, u95, u96, u97, u98, u99, u100, u101, u102, u103, u104, u105, u106, u107, u108, u109, u110, u111, u112, u113, u114, u115, u116, u117, u118, u119, u120, u121, u122, u123, u124, u125, u126, u127, u128, u129, u130, u131, u132, u133, u134, u135, u136, u137, u138, u139, u140, u141, u142, u143, u144, u145, u146, u147, u148, u149, u150, u151, u152, u153, u154, u155, u156, u157, u158, u159, u160, u161, u162, u163, u164, u165, u166, u167, u168, u169, u170, u171, u172, u173, u174, u175, u176, u177, u178, u179, u180, u181, u182, u183, u184, u185, u186, u187, u188, u189, u190, u191, u192, u193, u194, u195, u196, u197, u198, u199, u200, u201, u202, u203, u204, u205, u206, u207, u208, u209, u210, u211, u212, u213, u214, u215, u216, u217, u218, u219, u220, u221, u222, u223, u224, u225, u226, u227, u228, u229, u230], []⟩ w := by
  rw [lb5_eq]
  have HF := hidMk hfine
  clear hfine
  obtain ⟨hrg, hen, hen30⟩ := hs.each e (List.mem_of_getElem? hk)
  obtain ⟨hxi, hxn, hxn30⟩ := hs.lach x (List.mem_of_getElem? hx)
  have HEN := hidMk hen
  have HXN := hidMk hxn
  have HRG := hidMk (hrg.up hB)
  have HIS := hidMk (hxi.up hB)
  have HS := hidMk hs
  have HQ := hidMk hQ
  have HR := hidMk (hs.row hk hB)
  have HB := hidMk hB
  have HK := hidMk hk
  have HX := hidMk hx
  have hwz := hB.size
  have hnm : e.n ≤ 9223372036854775807 := by omega
  have hxm : x.n ≤ 9223372036854775807 := by omega
  have H18 := hidMk h18
  have HO := hidMk ho
  have HY := hidMk hy
  have H20 := hidMk h20
  have H22 := hidMk h22
  clear h18 ho hy h20 h22
  clear hs hQ hB hk hx hrg hen hxi hxn
  go_wp2_with (refine wpList_load_row rfl 30 _ rfl g18 rfl _ (jobC e.J (.slice oa e.n oc)) _ _ H18.out Try.underlying30 rfl szJob ?_)
  refine (spoiledF_any e.J oa e.n oc ya x.n yc x.l _ HEN.out hnm HO.out HXN.out hxm HY.out).mono ?_
  rintro e' w2 ⟨rfl, hb2⟩
  have HB2 := hidMk (HB.out.trans (hb2.mono hwz))
  have H18' := hidMk (H18.out.below hb2 H18.out.lt)
  have HO' := hidMk (HO.out.up hb2)
  have HY' := hidMk (HY.out.up hb2)
  have H20' := hidMk (H20.out.below hb2 H20.out.lt)
  have H22' := hidMk (H22.out.below hb2 H22.out.lt)
  clear hb2
  go_wp2_with fail
  exact lbp6 HF.out HS.out HK.out HX.out hk5 HQ.out HB2.out H18'.out HO'.out HY'.out H20'.out H22'.out
set_option maxHeartbeats 4000000 in
set_option maxRecDepth 1000000 in
theorem lbp4 {w1 : World} {g q : Nat} {es : List Ent} {ls : List Lst} {w0 : World} {k : Nat} {e : Ent} {x : Lst} {Q : Exit → Act → World → Prop} {oa : Option Addr} {oc g18 : Nat} {ya : Option Addr} {yc : Nat} {g20 : Nat} {g22 : Nat} {w : World} {u0 u1 u2 u3 u4 u5 u6 u7 u8 u9 u10 u11 u12 u13 u14 u26 u27 u28 u29 u30 u31 u32 u33 u34 u35 u36 u37 u38 u39 u40 u41 u42 u43 u44 u45 u46 u47 u48 u49 u50 u51 u52 u53 u54 u55 u56 u57 u58 u59 u60 u61 u62 u63 u64 u65 u66 u67 u68 u69 u70 u71 u72 u73 u74 u75 u76 u77 u78 u79 u80 u81 u82 u83 u84 u85 u86 u87 u88 u89 u90 u91 u92 u93 u94 u95 u96 u97 u98 u99 u100 u101 u102 u103 u104 u105 u106 u107 u108 u109 u110 u111 u112 u113 u114 u115 u116 u117 u118 u119 u120 u121 u122 u123 u124 u125 u126 u127 u128 u129 u130 u131 u132 u133 u134 u135 u136 u137 u138 u139 u140 u141 u142 u143 u144 u145 u146 u147 u148 u149 u150 u151 u152 u153 u154 u155 u156 u157 u158 u159 u160 u161 u162 u163 u164 u165 u166 u167 u168 u169 u170 u171 u172 u173 u174 u175 u176 u177 u178 u179 u180 u181 u182 u183 u184 u185 u186 u187 u188 u189 u190 u191 u192 u193 u194 u195 u196 u197 u198 u199 u200 u201 u202 u203 u204 u205 u206 u207 u208 u209 u210 u211 u212 u213 u214 u215 u216 u217 u218 u219 u220 u221 u222 u223 u224 u225 u226 u227 u228 u229 u230 : Value} (hfine : FineOK) (hs : SL w0 w1 g q es ls) (hk : es[k]? = some e) (hx : ls[k]? = some x) (hk5 : k < 5) (hQ : LQ Q w1 g q k) (hB : Below w1.heap.size w1 w) (h18 : Bk w g18 30 (jobC e.J (.slice oa e.n oc))) (ho : Rg w w.heap.size oa e.J.sh) (hy : Is w w.heap.size ya x.l) (h20 : Bk w g20 25 (tonC (afterT e.J x.l))) (h22 : Bk w g22 25 (tonC (afterT e.J x.l))) : Code.wp Try.prog lb4 Q ⟨#[u0, u1, u2, u3, u4, u5, u6, u7, u8, u9, u10, u11, u12, u13, u14, (.slice (some ⟨g, 0, none⟩) 5 5), (.slice (some ⟨q, 0, none⟩) 5 5), (.int .i64 ↑k), (.pointer (some ⟨g18, 0, none⟩)), (.slice ya x.n yc), (.pointer (some ⟨g20, 0, none⟩)), (.int .i64 (filedE e.J x.l)), (.pointer (some ⟨g22, 0, none⟩)), (.int .i64 (filedE e.J x.l)), (.int .i64 (worstX e.J x.l).1), (.int .i64 (worstX e.J x.l).2), u26, u27, u28, u29, u30, u31, u32, u33, u34, u35, u36, u37, u38, u39, u40, u41, u42, u43, u44, u45, u46, u47, u48, u49, u50, u51, u52, u53, u54, u55, u56, u57, u58, u59, u60, u61, u62, u63, u64, u65, u66, u67, u68, u69, u70, u71, u72, u73, u74, u75, u76, u77, u78, u79, u80, u81, u82, u83, u84, u85, u86, u87, u88, u89, u90, u91, u92, u93, u94, u95, u96, u97, u98, u99, u100, u101, u102, u103, u104, u105, u106, u107, u108, u109, u110, u111, u112, u113, u114, u115, u116, u117, u118, u119, u120, u121, u122, u123, u124, u125, u126, u127, u128, u129, u130, u131, u132, u133, u134, u135, u136, u137, u138, u139, u140, u141, u142, u143, u144, u145, u146, u147, u148, u149, u150, u151, u152, u153, u154, u155, u156, u157, u158, u159, u160, u161, u162, u163, u164, u165, u166, u167, u168, u169, u170, u171, u172, u173, u174, u175, u176, u177, u178, u179, u180, u181, u182, u183, u184, u185, u186, u187, u188, u189, u190, u191, u192, u193, u194, u195, u196, u197, u198, u199, u200, u201, u202, u203, u204, u205, u206, u207, u208, u209, u210, u211, u212, u213, u214, u215, u216, u217, u218, u219, u220, u221, u222, u223, u224, u225, u226, u227, u228, u229, u230], []⟩ w := by
  rw [lb4_eq]
  have HF := hidMk hfine
  clear hfine
  obtain ⟨hrg, hen, hen30⟩ := hs.each e (List.mem_of_getElem? hk)
  obtain ⟨hxi, hxn, hxn30⟩ := hs.lach x (List.mem_of_getElem? hx)
  have HEN := hidMk hen
  have HXN := hidMk hxn
  have HRG := hidMk (hrg.up hB)
  have HIS := hidMk (hxi.up hB)
  have HS := hidMk hs
  have HQ := hidMk hQ
  have HR := hidMk (hs.row hk hB)
  have HB := hidMk hB
  have HK := hidMk hk
  have HX := hidMk hx
  have hwz := hB.size
  have hnm : e.n ≤ 9223372036854775807 := by omega
  have hxm : x.n ≤ 9223372036854775807 := by omega
  have H18 := hidMk h18
  have HO := hidMk ho
  have HY := hidMk hy
  have H20 := hidMk h20
  have H22 := hidMk h22
  clear h18 ho hy h20 h22
  clear hs hQ hB hk hx hrg hen hxi hxn
  have hki : (0 : Int) ≤ (k : Int) := by omega
  have hki2 : (k : Int) < 5 := by omega
  refine wp_seq_k fun K0 hK0 => ?_
  refine region_via (R := fun a_ e_ a' w' => e_ = .normal ∧ ∃ (v127 v128 v129 v130 v131 v132 v133 v134 v135 v126 v136 v137 : Value), a' = ((((((((((((((a_.put (some 127) v127).put (some 128) v128).put (some 129) v129).put (some 130) v130).put (some 131) v131).put (some 132) v132).put (some 133) v133).put (some 134) v134).put (some 135) v135).put (some 126) v126).put (some 136) v136).put (some 137) v137).put (some 26) (.int .i64 (worstX e.J x.l).1)).put (some 27) (.int .i64 (worstX e.J x.l).2)) ∧ Below w.heap.size w w') ?_ ?_
  rotate_left
  · rintro e_ a' w' ⟨rfl, v127, v128, v129, v130, v131, v132, v133, v134, v135, v126, v136, v137, rfl, al⟩
    refine hK0 _ _ ?_
    simp only [Act.put, aT, aZ, aS]
    have HB2 := hidMk (HB.out.trans (al.mono hwz))
    have H18' := hidMk (H18.out.below al H18.out.lt)
    have HO' := hidMk (HO.out.up al)
    have HY' := hidMk (HY.out.up al)
    have H20' := hidMk (H20.out.below al H20.out.lt)
    have H22' := hidMk (H22.out.below al H22.out.lt)
    exact lbp5 HF.out HS.out HK.out HX.out hk5 HQ.out HB2.out H18'.out HO'.out HY'.out H20'.out H22'.out
  have hBW : Below w.heap.size w w.drew := (Below.refl _ _).drew
  refine wp_region_held_drew (S := fun w' => Below w.heap.size w w') (by kernel_rfl) hBW (fun hS0 => ?_)
  generalize hWd : w.drew = wd at hS0 hBW ⊢
  clear hWd
  refine wpAnyH_take (i := 0) (v := ?_) rfl (by kernel_rfl) (by kernel_rfl) (by kernel_rfl) (fun _ _ _ h => by cases h.1) (.inl ⟨by rfl, ?_⟩) (by assumption) ?_
  rotate_left
  · (intro w' hSw; (try dsimp only at hSw); (have hrd := HS.out.rd HX.out (HB.out.trans (hSw.mono hwz))); go_simp <;> with_reducible rfl)
  (try simp only [Act.put, aT, aZ, aS])
  refine wpAnyH_take (i := 1) (v := ?_) rfl (by kernel_rfl) (by kernel_rfl) (by kernel_rfl) (fun _ _ _ h => by cases h.1) (.inl ⟨by rfl, ?_⟩) (by assumption) ?_
  rotate_left
  · (intro w' hSw; (try dsimp only at hSw); (have hrd := HS.out.rd HX.out (HB.out.trans (hSw.mono hwz))); go_simp <;> with_reducible rfl)
  (try simp only [Act.put, aT, aZ, aS])
  refine wpAnyH_take (i := 2) (v := ?_) rfl (by kernel_rfl) (by kernel_rfl) (by kernel_rfl) (fun _ _ _ h => by cases h.1) (.inl ⟨by rfl, ?_⟩) (by assumption) ?_
  rotate_left
  · (intro w' hSw; (try dsimp only at hSw); (have hrd := HS.out.rd HX.out (HB.out.trans (hSw.mono hwz))); go_simp <;> with_reducible rfl)
  (try simp only [Act.put, aT, aZ, aS])
  refine wpAnyH_take (i := 3) rfl (by kernel_rfl) (by kernel_rfl) (by kernel_rfl) (fun _ _ _ h => by cases h.1) (yields_mid (by rfl) 30 _ rfl g (k * 18) rfl (jobC e.J (.slice e.a e.n e.c)) _ (fun w' hw => HS.out.row HK.out (HB.out.trans (hw.mono hwz))) Try.underlying30 rfl szJob) (by assumption) ?_
  (try simp only [Act.put, aT, aZ, aS])
  refine wpAnyH_take (i := 4) (v := ?_) rfl (by kernel_rfl) (by kernel_rfl) (by kernel_rfl) (fun _ _ _ h => by cases h.1) (.inl ⟨by rfl, ?_⟩) (by assumption) ?_
  rotate_left
  · (intro w' hSw; (try dsimp only at hSw); (have hrd := HS.out.rd HX.out (HB.out.trans (hSw.mono hwz))); go_simp <;> with_reducible rfl)
  (try simp only [Act.put, aT, aZ, aS])
  refine wpAnyH_take (i := 5) (v := ?_) rfl (by kernel_rfl) (by kernel_rfl) (by kernel_rfl) (fun _ _ _ h => by cases h.1) (.inl ⟨by rfl, ?_⟩) (by assumption) ?_
  rotate_left
  · (intro w' hSw; (try dsimp only at hSw); (have hrd := HS.out.rd HX.out (HB.out.trans (hSw.mono hwz))); go_simp <;> with_reducible rfl)
  (try simp only [Act.put, aT, aZ, aS])
  refine wpAnyH_take (i := 6) (v := ?_) rfl (by kernel_rfl) (by kernel_rfl) (by kernel_rfl) (fun _ _ _ h => by cases h.1) (.inl ⟨by rfl, ?_⟩) (by assumption) ?_
  rotate_left
  · (intro w' hSw; (try dsimp only at hSw); (have hrd := HS.out.rd HX.out (HB.out.trans (hSw.mono hwz))); go_simp <;> with_reducible rfl)
  (try simp only [Act.put, aT, aZ, aS])
  refine wpAnyH_take (i := 7) (v := ?_) rfl (by kernel_rfl) (by kernel_rfl) (by kernel_rfl) (fun _ _ _ h => by cases h.1) (.inl ⟨by rfl, ?_⟩) (by assumption) ?_
  rotate_left
  · (intro w' hSw; (try dsimp only at hSw); (have hrd := HS.out.rd HX.out (HB.out.trans (hSw.mono hwz))); go_simp <;> with_reducible rfl)
  (try simp only [Act.put, aT, aZ, aS])
  refine wpAnyH_ready (rs := [8]) (by kernel_rfl) (by simp) ?_
  refine AllReadyH.cons rfl (fun K hK => ?_) ?_
  · go_simp
    go_at_call 25
    refine (refWorst_any e.J e.a e.n e.c x.a x.n x.c x.l _ HEN.out hnm (HRG.out.up hBW) HXN.out hxm (HIS.out.up hBW)).mono ?_
    rintro e' wX ⟨rfl, hbX⟩
    have hBW_ := hBW.trans (hbX.mono hBW.size)
    clear hBW
    have hBW := hBW_
    clear hBW_
    clear hbX
    go_wp2_with fail
    refine hK.out _ _ hBW (fun _ => ?_)
    clear hK K
    (try simp only [Act.put, aT, aZ, aS])
    refine wpAnyH_take (i := 9) (v := ?_) rfl (by kernel_rfl) (by kernel_rfl) (by kernel_rfl) (fun _ _ _ h => by cases h.1) (.inl ⟨by rfl, ?_⟩) (by assumption) ?_
    rotate_left
    · (intro w' hSw; (try dsimp only at hSw); (have hrd := HS.out.rd HX.out (HB.out.trans (hSw.mono hwz))); go_simp <;> with_reducible rfl)
    (try simp only [Act.put, aT, aZ, aS])
    refine wpAnyH_take (i := 10) (v := ?_) rfl (by kernel_rfl) (by kernel_rfl) (by kernel_rfl) (fun _ _ _ h => by cases h.1) (.inl ⟨by rfl, ?_⟩) (by assumption) ?_
    rotate_left
    · (intro w' hSw; (try dsimp only at hSw); (have hrd := HS.out.rd HX.out (HB.out.trans (hSw.mono hwz))); go_simp <;> with_reducible rfl)
    (try simp only [Act.put, aT, aZ, aS])
    refine wpAnyH_take (i := 11) (v := ?_) rfl (by kernel_rfl) (by kernel_rfl) (by kernel_rfl) (fun _ _ _ h => by cases h.1) (.inl ⟨by rfl, ?_⟩) (by assumption) ?_
    rotate_left
    · (intro w' hSw; (try dsimp only at hSw); (have hrd := HS.out.rd HX.out (HB.out.trans (hSw.mono hwz))); go_simp <;> with_reducible rfl)
    (try simp only [Act.put, aT, aZ, aS])
    refine wpAnyH_ready (rs := [12]) (by kernel_rfl) (by simp) ?_
    refine AllReadyH.cons rfl (fun K hK => ?_) ?_
    · go_simp
      refine hK.out _ _ hBW (fun _ => ?_)
      clear hK K
      (try simp only [Act.put, aT, aZ, aS])
      refine wpAnyH_ready (rs := [13]) (by kernel_rfl) (by simp) ?_
      refine AllReadyH.cons rfl (fun K hK => ?_) ?_
      · go_simp
        refine hK.out _ _ hBW (fun _ => ?_)
        clear hK K
        (try simp only [Act.put, aT, aZ, aS])
        refine wpAnyH_done (by kernel_rfl) ?_ _
        exact ⟨rfl, _, _, _, _, _, _, _, _, _, _, _, _, rfl, hBW⟩
      exact AllReadyH.nil
    exact AllReadyH.nil
  exact AllReadyH.nil
set_option maxHeartbeats 4000000 in
set_option maxRecDepth 1000000 in
theorem lbp3 {w1 : World} {g q : Nat} {es : List Ent} {ls : List Lst} {w0 : World} {k : Nat} {e : Ent} {x : Lst} {Q : Exit → Act → World → Prop} {oa : Option Addr} {oc g18 : Nat} {ya : Option Addr} {yc : Nat} {g20 : Nat} {g22 : Nat} {w : World} {u0 u1 u2 u3 u4 u5 u6 u7 u8 u9 u10 u11 u12 u13 u14 u24 u25 u26 u27 u28 u29 u30 u31 u32 u33 u34 u35 u36 u37 u38 u39 u40 u41 u42 u43 u44 u45 u46 u47 u48 u49 u50 u51 u52 u53 u54 u55 u56 u57 u58 u59 u60 u61 u62 u63 u64 u65 u66 u67 u68 u69 u70 u71 u72 u73 u74 u75 u76 u77 u78 u79 u80 u81 u82 u83 u84 u85 u86 u87 u88 u89 u90 u91 u92 u93 u94 u95 u96 u97 u98 u99 u100 u101 u102 u103 u104 u105 u106 u107 u108 u109 u110 u111 u112 u113 u114 u115 u116 u117 u118 u119 u120 u121 u122 u123 u124 u125 u126 u127 u128 u129 u130 u131 u132 u133 u134 u135 u136 u137 u138 u139 u140 u141 u142 u143 u144 u145 u146 u147 u148 u149 u150 u151 u152 u153 u154 u155 u156 u157 u158 u159 u160 u161 u162 u163 u164 u165 u166 u167 u168 u169 u170 u171 u172 u173 u174 u175 u176 u177 u178 u179 u180 u181 u182 u183 u184 u185 u186 u187 u188 u189 u190 u191 u192 u193 u194 u195 u196 u197 u198 u199 u200 u201 u202 u203 u204 u205 u206 u207 u208 u209 u210 u211 u212 u213 u214 u215 u216 u217 u218 u219 u220 u221 u222 u223 u224 u225 u226 u227 u228 u229 u230 : Value} (hfine : FineOK) (hs : SL w0 w1 g q es ls) (hk : es[k]? = some e) (hx : ls[k]? = some x) (hk5 : k < 5) (hQ : LQ Q w1 g q k) (hB : Below w1.heap.size w1 w) (h18 : Bk w g18 30 (jobC e.J (.slice oa e.n oc))) (ho : Rg w w.heap.size oa e.J.sh) (hy : Is w w.heap.size ya x.l) (h20 : Bk w g20 25 (tonC (afterT e.J x.l))) (h22 : Bk w g22 25 (tonC (afterT e.J x.l))) : Code.wp Try.prog lb3 Q ⟨#[u0, u1, u2, u3, u4, u5, u6, u7, u8, u9, u10, u11, u12, u13, u14, (.slice (some ⟨g, 0, none⟩) 5 5), (.slice (some ⟨q, 0, none⟩) 5 5), (.int .i64 ↑k), (.pointer (some ⟨g18, 0, none⟩)), (.slice ya x.n yc), (.pointer (some ⟨g20, 0, none⟩)), (.int .i64 (filedE e.J x.l)), (.pointer (some ⟨g22, 0, none⟩)), (.int .i64 (filedE e.J x.l)), u24, u25, u26, u27, u28, u29, u30, u31, u32, u33, u34, u35, u36, u37, u38, u39, u40, u41, u42, u43, u44, u45, u46, u47, u48, u49, u50, u51, u52, u53, u54, u55, u56, u57, u58, u59, u60, u61, u62, u63, u64, u65, u66, u67, u68, u69, u70, u71, u72, u73, u74, u75, u76, u77, u78, u79, u80, u81, u82, u83, u84, u85, u86, u87, u88, u89, u90, u91, u92, u93, u94, u95, u96, u97, u98, u99, u100, u101, u102, u103, u104, u105, u106, u107, u108, u109, u110, u111, u112, u113, u114, u115, u116, u117, u118, u119, u120, u121, u122, u123, u124, u125, u126, u127, u128, u129, u130, u131, u132, u133, u134, u135, u136, u137, u138, u139, u140, u141, u142, u143, u144, u145, u146, u147, u148, u149, u150, u151, u152, u153, u154, u155, u156, u157, u158, u159, u160, u161, u162, u163, u164, u165, u166, u167, u168, u169, u170, u171, u172, u173, u174, u175, u176, u177, u178, u179, u180, u181, u182, u183, u184, u185, u186, u187, u188, u189, u190, u191, u192, u193, u194, u195, u196, u197, u198, u199, u200, u201, u202, u203, u204, u205, u206, u207, u208, u209, u210, u211, u212, u213, u214, u215, u216, u217, u218, u219, u220, u221, u222, u223, u224, u225, u226, u227, u228, u229, u230], []⟩ w := by
  rw [lb3_eq]
  have HF := hidMk hfine
  clear hfine
  obtain ⟨hrg, hen, hen30⟩ := hs.each e (List.mem_of_getElem? hk)
  obtain ⟨hxi, hxn, hxn30⟩ := hs.lach x (List.mem_of_getElem? hx)
  have HEN := hidMk hen
  have HXN := hidMk hxn
  have HRG := hidMk (hrg.up hB)
  have HIS := hidMk (hxi.up hB)
  have HS := hidMk hs
  have HQ := hidMk hQ
  have HR := hidMk (hs.row hk hB)
  have HB := hidMk hB
  have HK := hidMk hk
  have HX := hidMk hx
  have hwz := hB.size
  have hnm : e.n ≤ 9223372036854775807 := by omega
  have hxm : x.n ≤ 9223372036854775807 := by omega
  have H18 := hidMk h18
  have HO := hidMk ho
  have HY := hidMk hy
  have H20 := hidMk h20
  have H22 := hidMk h22
  clear h18 ho hy h20 h22
  clear hs hQ hB hk hx hrg hen hxi hxn
  go_wp2_with (refine wpList_load_row rfl 30 _ rfl g18 rfl _ (jobC e.J (.slice oa e.n oc)) _ _ H18.out Try.underlying30 rfl szJob ?_)
  refine (worstF_any e.J oa e.n oc ya x.n yc x.l _ HEN.out hnm HO.out HXN.out hxm HY.out).mono ?_
  rintro e' w2 ⟨rfl, hb2⟩
  have HB2 := hidMk (HB.out.trans (hb2.mono hwz))
  have H18' := hidMk (H18.out.below hb2 H18.out.lt)
  have HO' := hidMk (HO.out.up hb2)
  have HY' := hidMk (HY.out.up hb2)
  have H20' := hidMk (H20.out.below hb2 H20.out.lt)
  have H22' := hidMk (H22.out.below hb2 H22.out.lt)
  clear hb2
  go_wp2_with fail
  exact lbp4 HF.out HS.out HK.out HX.out hk5 HQ.out HB2.out H18'.out HO'.out HY'.out H20'.out H22'.out
set_option maxHeartbeats 4000000 in
set_option maxRecDepth 1000000 in
theorem lbp2 {w1 : World} {g q : Nat} {es : List Ent} {ls : List Lst} {w0 : World} {k : Nat} {e : Ent} {x : Lst} {Q : Exit → Act → World → Prop} {oa : Option Addr} {oc g18 : Nat} {ya : Option Addr} {yc : Nat} {g20 : Nat} {w : World} {u0 u1 u2 u3 u4 u5 u6 u7 u8 u9 u10 u11 u12 u13 u14 u22 u23 u24 u25 u26 u27 u28 u29 u30 u31 u32 u33 u34 u35 u36 u37 u38 u39 u40 u41 u42 u43 u44 u45 u46 u47 u48 u49 u50 u51 u52 u53 u54 u55 u56 u57 u58 u59 u60 u61 u62 u63 u64 u65 u66 u67 u68 u69 u70 u71 u72 u73 u74 u75 u76 u77 u78 u79 u80 u81 u82 u83 u84 u85 u86 u87 u88 u89 u90 u91 u92 u93 u94 u95 u96 u97 u98 u99 u100 u101 u102 u103 u104 u105 u106 u107 u108 u109 u110 u111 u112 u113 u114 u115 u116 u117 u118 u119 u120 u121 u122 u123 u124 u125 u126 u127 u128 u129 u130 u131 u132 u133 u134 u135 u136 u137 u138 u139 u140 u141 u142 u143 u144 u145 u146 u147 u148 u149 u150 u151 u152 u153 u154 u155 u156 u157 u158 u159 u160 u161 u162 u163 u164 u165 u166 u167 u168 u169 u170 u171 u172 u173 u174 u175 u176 u177 u178 u179 u180 u181 u182 u183 u184 u185 u186 u187 u188 u189 u190 u191 u192 u193 u194 u195 u196 u197 u198 u199 u200 u201 u202 u203 u204 u205 u206 u207 u208 u209 u210 u211 u212 u213 u214 u215 u216 u217 u218 u219 u220 u221 u222 u223 u224 u225 u226 u227 u228 u229 u230 : Value} (hfine : FineOK) (hs : SL w0 w1 g q es ls) (hk : es[k]? = some e) (hx : ls[k]? = some x) (hk5 : k < 5) (hQ : LQ Q w1 g q k) (hB : Below w1.heap.size w1 w) (h18 : Bk w g18 30 (jobC e.J (.slice oa e.n oc))) (ho : Rg w w.heap.size oa e.J.sh) (hy : Is w w.heap.size ya x.l) (h20 : Bk w g20 25 (tonC (afterT e.J x.l))) : Code.wp Try.prog lb2 Q ⟨#[u0, u1, u2, u3, u4, u5, u6, u7, u8, u9, u10, u11, u12, u13, u14, (.slice (some ⟨g, 0, none⟩) 5 5), (.slice (some ⟨q, 0, none⟩) 5 5), (.int .i64 ↑k), (.pointer (some ⟨g18, 0, none⟩)), (.slice ya x.n yc), (.pointer (some ⟨g20, 0, none⟩)), (.int .i64 (filedE e.J x.l)), u22, u23, u24, u25, u26, u27, u28, u29, u30, u31, u32, u33, u34, u35, u36, u37, u38, u39, u40, u41, u42, u43, u44, u45, u46, u47, u48, u49, u50, u51, u52, u53, u54, u55, u56, u57, u58, u59, u60, u61, u62, u63, u64, u65, u66, u67, u68, u69, u70, u71, u72, u73, u74, u75, u76, u77, u78, u79, u80, u81, u82, u83, u84, u85, u86, u87, u88, u89, u90, u91, u92, u93, u94, u95, u96, u97, u98, u99, u100, u101, u102, u103, u104, u105, u106, u107, u108, u109, u110, u111, u112, u113, u114, u115, u116, u117, u118, u119, u120, u121, u122, u123, u124, u125, u126, u127, u128, u129, u130, u131, u132, u133, u134, u135, u136, u137, u138, u139, u140, u141, u142, u143, u144, u145, u146, u147, u148, u149, u150, u151, u152, u153, u154, u155, u156, u157, u158, u159, u160, u161, u162, u163, u164, u165, u166, u167, u168, u169, u170, u171, u172, u173, u174, u175, u176, u177, u178, u179, u180, u181, u182, u183, u184, u185, u186, u187, u188, u189, u190, u191, u192, u193, u194, u195, u196, u197, u198, u199, u200, u201, u202, u203, u204, u205, u206, u207, u208, u209, u210, u211, u212, u213, u214, u215, u216, u217, u218, u219, u220, u221, u222, u223, u224, u225, u226, u227, u228, u229, u230], []⟩ w := by
  rw [lb2_eq]
  have HF := hidMk hfine
  clear hfine
  obtain ⟨hrg, hen, hen30⟩ := hs.each e (List.mem_of_getElem? hk)
  obtain ⟨hxi, hxn, hxn30⟩ := hs.lach x (List.mem_of_getElem? hx)
  have HEN := hidMk hen
  have HXN := hidMk hxn
  have HRG := hidMk (hrg.up hB)
  have HIS := hidMk (hxi.up hB)
  have HS := hidMk hs
  have HQ := hidMk hQ
  have HR := hidMk (hs.row hk hB)
  have HB := hidMk hB
  have HK := hidMk hk
  have HX := hidMk hx
  have hwz := hB.size
  have hnm : e.n ≤ 9223372036854775807 := by omega
  have hxm : x.n ≤ 9223372036854775807 := by omega
  have H18 := hidMk h18
  have HO := hidMk ho
  have HY := hidMk hy
  have H20 := hidMk h20
  clear h18 ho hy h20
  clear hs hQ hB hk hx hrg hen hxi hxn
  have hki : (0 : Int) ≤ (k : Int) := by omega
  have hki2 : (k : Int) < 5 := by omega
  refine wp_seq_k fun K0 hK0 => ?_
  refine region_via (R := fun a_ e_ a' w' => e_ = .normal ∧ ∃ (v109 v110 v111 v112 v113 v114 v115 v116 v117 v108 v118 v119 : Value) (g22 : Nat), a' = ((((((((((((((a_.put (some 109) v109).put (some 110) v110).put (some 111) v111).put (some 112) v112).put (some 113) v113).put (some 114) v114).put (some 115) v115).put (some 116) v116).put (some 117) v117).put (some 108) v108).put (some 118) v118).put (some 119) v119).put (some 22) (.pointer (some ⟨g22, 0, none⟩))).put (some 23) (.int .i64 (filedE e.J x.l))) ∧ Below w.heap.size w w' ∧ Bk w' g22 25 (tonC (afterT e.J x.l))) ?_ ?_
  rotate_left
  · rintro e_ a' w' ⟨rfl, v109, v110, v111, v112, v113, v114, v115, v116, v117, v108, v118, v119, g22, rfl, al, hnew⟩
    refine hK0 _ _ ?_
    simp only [Act.put, aT, aZ, aS]
    have HB2 := hidMk (HB.out.trans (al.mono hwz))
    have H18' := hidMk (H18.out.below al H18.out.lt)
    have HO' := hidMk (HO.out.up al)
    have HY' := hidMk (HY.out.up al)
    have H20' := hidMk (H20.out.below al H20.out.lt)
    exact lbp3 HF.out HS.out HK.out HX.out hk5 HQ.out HB2.out H18'.out HO'.out HY'.out H20'.out hnew
  have hBW : Below w.heap.size w w.drew := (Below.refl _ _).drew
  refine wp_region_held_drew (S := fun w' => Below w.heap.size w w') (by kernel_rfl) hBW (fun hS0 => ?_)
  generalize hWd : w.drew = wd at hS0 hBW ⊢
  clear hWd
  refine wpAnyH_take (i := 0) (v := ?_) rfl (by kernel_rfl) (by kernel_rfl) (by kernel_rfl) (fun _ _ _ h => by cases h.1) (.inl ⟨by rfl, ?_⟩) (by assumption) ?_
  rotate_left
  · (intro w' hSw; (try dsimp only at hSw); (have hrd := HS.out.rd HX.out (HB.out.trans (hSw.mono hwz))); go_simp <;> with_reducible rfl)
  (try simp only [Act.put, aT, aZ, aS])
  refine wpAnyH_take (i := 1) (v := ?_) rfl (by kernel_rfl) (by kernel_rfl) (by kernel_rfl) (fun _ _ _ h => by cases h.1) (.inl ⟨by rfl, ?_⟩) (by assumption) ?_
  rotate_left
  · (intro w' hSw; (try dsimp only at hSw); (have hrd := HS.out.rd HX.out (HB.out.trans (hSw.mono hwz))); go_simp <;> with_reducible rfl)
  (try simp only [Act.put, aT, aZ, aS])
  refine wpAnyH_take (i := 2) (v := ?_) rfl (by kernel_rfl) (by kernel_rfl) (by kernel_rfl) (fun _ _ _ h => by cases h.1) (.inl ⟨by rfl, ?_⟩) (by assumption) ?_
  rotate_left
  · (intro w' hSw; (try dsimp only at hSw); (have hrd := HS.out.rd HX.out (HB.out.trans (hSw.mono hwz))); go_simp <;> with_reducible rfl)
  (try simp only [Act.put, aT, aZ, aS])
  refine wpAnyH_take (i := 3) rfl (by kernel_rfl) (by kernel_rfl) (by kernel_rfl) (fun _ _ _ h => by cases h.1) (yields_mid (by rfl) 30 _ rfl g (k * 18) rfl (jobC e.J (.slice e.a e.n e.c)) _ (fun w' hw => HS.out.row HK.out (HB.out.trans (hw.mono hwz))) Try.underlying30 rfl szJob) (by assumption) ?_
  (try simp only [Act.put, aT, aZ, aS])
  refine wpAnyH_take (i := 4) (v := ?_) rfl (by kernel_rfl) (by kernel_rfl) (by kernel_rfl) (fun _ _ _ h => by cases h.1) (.inl ⟨by rfl, ?_⟩) (by assumption) ?_
  rotate_left
  · (intro w' hSw; (try dsimp only at hSw); (have hrd := HS.out.rd HX.out (HB.out.trans (hSw.mono hwz))); go_simp <;> with_reducible rfl)
  (try simp only [Act.put, aT, aZ, aS])
  refine wpAnyH_take (i := 5) (v := ?_) rfl (by kernel_rfl) (by kernel_rfl) (by kernel_rfl) (fun _ _ _ h => by cases h.1) (.inl ⟨by rfl, ?_⟩) (by assumption) ?_
  rotate_left
  · (intro w' hSw; (try dsimp only at hSw); (have hrd := HS.out.rd HX.out (HB.out.trans (hSw.mono hwz))); go_simp <;> with_reducible rfl)
  (try simp only [Act.put, aT, aZ, aS])
  refine wpAnyH_take (i := 6) (v := ?_) rfl (by kernel_rfl) (by kernel_rfl) (by kernel_rfl) (fun _ _ _ h => by cases h.1) (.inl ⟨by rfl, ?_⟩) (by assumption) ?_
  rotate_left
  · (intro w' hSw; (try dsimp only at hSw); (have hrd := HS.out.rd HX.out (HB.out.trans (hSw.mono hwz))); go_simp <;> with_reducible rfl)
  (try simp only [Act.put, aT, aZ, aS])
  refine wpAnyH_take (i := 7) (v := ?_) rfl (by kernel_rfl) (by kernel_rfl) (by kernel_rfl) (fun _ _ _ h => by cases h.1) (.inl ⟨by rfl, ?_⟩) (by assumption) ?_
  rotate_left
  · (intro w' hSw; (try dsimp only at hSw); (have hrd := HS.out.rd HX.out (HB.out.trans (hSw.mono hwz))); go_simp <;> with_reducible rfl)
  (try simp only [Act.put, aT, aZ, aS])
  refine wpAnyH_ready (rs := [8, 12]) (by kernel_rfl) (by simp) ?_
  refine AllReadyH.cons rfl (fun K hK => ?_) ?_
  · go_simp
    go_at_call 23
    refine (refAfterX_any e.J e.a e.n e.c x.a x.n x.c x.l _ HEN.out hnm (HRG.out.up hBW) HXN.out hxm (HIS.out.up hBW)).mono ?_
    rintro e' wX ans
    obtain ⟨rfl, hbX⟩ := after_ans ans
    clear ans
    have hBW_ := hBW.trans (hbX.mono hBW.size)
    clear hBW
    have hBW := hBW_
    clear hBW_
    clear hbX
    go_wp2_with fail
    refine hK.out _ _ hBW (fun _ => ?_)
    clear hK K
    (try simp only [Act.put, aT, aZ, aS])
    refine wpAnyH_take (i := 9) (v := ?_) rfl (by kernel_rfl) (by kernel_rfl) (by kernel_rfl) (fun _ _ _ h => by cases h.1) (.inl ⟨by rfl, ?_⟩) (by assumption) ?_
    rotate_left
    · (intro w' hSw; (try dsimp only at hSw); (have hrd := HS.out.rd HX.out (HB.out.trans (hSw.mono hwz))); go_simp <;> with_reducible rfl)
    (try simp only [Act.put, aT, aZ, aS])
    refine wpAnyH_take (i := 10) (v := ?_) rfl (by kernel_rfl) (by kernel_rfl) (by kernel_rfl) (fun _ _ _ h => by cases h.1) (.inl ⟨by rfl, ?_⟩) (by assumption) ?_
    rotate_left
    · (intro w' hSw; (try dsimp only at hSw); (have hrd := HS.out.rd HX.out (HB.out.trans (hSw.mono hwz))); go_simp <;> with_reducible rfl)
    (try simp only [Act.put, aT, aZ, aS])
    refine wpAnyH_take (i := 11) (v := ?_) rfl (by kernel_rfl) (by kernel_rfl) (by kernel_rfl) (fun _ _ _ h => by cases h.1) (.inl ⟨by rfl, ?_⟩) (by assumption) ?_
    rotate_left
    · (intro w' hSw; (try dsimp only at hSw); (have hrd := HS.out.rd HX.out (HB.out.trans (hSw.mono hwz))); go_simp <;> with_reducible rfl)
    (try simp only [Act.put, aT, aZ, aS])
    refine wpAnyH_ready (rs := [12]) (by kernel_rfl) (by simp) ?_
    refine AllReadyH.cons rfl (fun K hK => ?_) ?_
    · have hx0 : Bk (wX.alloc (.cells #[.int .i64 0, .int .i64 0, .int .i64 0, .int .i64 0, .int .i64 0, .int .i64 0] 25)) wX.heap.size 25 #[.int .i64 0, .int .i64 0, .int .i64 0, .int .i64 0, .int .i64 0, .int .i64 0] := Bk.new _ _ _
      have hgl : w.heap.size ≤ wX.heap.size := hBW.size
      have hBW_ := (hBW.alloc hBW.size (.cells #[.int .i64 0, .int .i64 0, .int .i64 0, .int .i64 0, .int .i64 0, .int .i64 0] 25) : Below w.heap.size w (wX.alloc (.cells #[.int .i64 0, .int .i64 0, .int .i64 0, .int .i64 0, .int .i64 0, .int .i64 0] 25)))
      clear hBW
      have hBW := hBW_
      clear hBW_
      go_simp
      show K _ (wX.alloc (.cells #[.int .i64 0, .int .i64 0, .int .i64 0, .int .i64 0, .int .i64 0, .int .i64 0] 25))
      refine hK.out _ _ hBW (fun _ => ?_)
      generalize hW_ : wX.alloc (.cells #[.int .i64 0, .int .i64 0, .int .i64 0, .int .i64 0, .int .i64 0, .int .i64 0] 25) = wA at hx0 hBW ⊢
      clear hW_
      generalize hG_ : wX.heap.size = gA at hx0 hgl ⊢
      clear hG_
      clear hK K
      (try simp only [Act.put, aT, aZ, aS])
      refine wpAnyH_ready (rs := [13]) (by kernel_rfl) (by simp) ?_
      refine AllReadyH.cons rfl (fun K hK => ?_) ?_
      · have hx1 := hx0.row (tonC (afterT e.J x.l))
        have hB1 := below_setRow hBW hgl (tonC (afterT e.J x.l))
        rw [if_pos (by rfl)]
        refine wp_store_row 25 (.tmp 22) (.tmp 118) rfl gA (tonC (afterT e.J x.l)) rfl rfl 25 _ hx0 szTongue rfl (oneTon _) ?_
        refine hK.out _ _ hB1 (fun _ => ?_)
        generalize hW_ : wA.setRow gA (tonC (afterT e.J x.l)) = wS at hx1 hB1 ⊢
        clear hW_ hx0 hBW
        clear hK K
        (try simp only [Act.put, aT, aZ, aS])
        refine wpAnyH_ready (rs := [14]) (by kernel_rfl) (by simp) ?_
        refine AllReadyH.cons rfl (fun K hK => ?_) ?_
        · go_simp
          refine hK.out _ _ hB1 (fun _ => ?_)
          clear hK K
          (try simp only [Act.put, aT, aZ, aS])
          refine wpAnyH_done (by kernel_rfl) ?_ _
          exact ⟨rfl, _, _, _, _, _, _, _, _, _, _, _, _, gA, rfl, hB1, hx1⟩
        exact AllReadyH.nil
      exact AllReadyH.nil
    exact AllReadyH.nil
  refine AllReadyH.cons rfl (fun K hK => ?_) ?_
  · have hx0 : Bk (wd.alloc (.cells #[.int .i64 0, .int .i64 0, .int .i64 0, .int .i64 0, .int .i64 0, .int .i64 0] 25)) wd.heap.size 25 #[.int .i64 0, .int .i64 0, .int .i64 0, .int .i64 0, .int .i64 0, .int .i64 0] := Bk.new _ _ _
    have hgl : w.heap.size ≤ wd.heap.size := hBW.size
    have hBW_ := (hBW.alloc hBW.size (.cells #[.int .i64 0, .int .i64 0, .int .i64 0, .int .i64 0, .int .i64 0, .int .i64 0] 25) : Below w.heap.size w (wd.alloc (.cells #[.int .i64 0, .int .i64 0, .int .i64 0, .int .i64 0, .int .i64 0, .int .i64 0] 25)))
    clear hBW
    have hBW := hBW_
    clear hBW_
    go_simp
    show K _ (wd.alloc (.cells #[.int .i64 0, .int .i64 0, .int .i64 0, .int .i64 0, .int .i64 0, .int .i64 0] 25))
    refine hK.out _ _ hBW (fun _ => ?_)
    generalize hW_ : wd.alloc (.cells #[.int .i64 0, .int .i64 0, .int .i64 0, .int .i64 0, .int .i64 0, .int .i64 0] 25) = wA at hx0 hBW ⊢
    clear hW_
    generalize hG_ : wd.heap.size = gA at hx0 hgl ⊢
    clear hG_
    clear hK K
    (try simp only [Act.put, aT, aZ, aS])
    refine wpAnyH_ready (rs := [8]) (by kernel_rfl) (by simp) ?_
    refine AllReadyH.cons rfl (fun K hK => ?_) ?_
    · go_simp
      go_at_call 23
      refine (refAfterX_any e.J e.a e.n e.c x.a x.n x.c x.l _ HEN.out hnm (HRG.out.up hBW) HXN.out hxm (HIS.out.up hBW)).mono ?_
      rintro e' wX ans
      obtain ⟨rfl, hbX⟩ := after_ans ans
      clear ans
      have hx0_ := hx0.below hbX hx0.lt
      clear hx0
      have hx0 := hx0_
      clear hx0_
      have hBW_ := hBW.trans (hbX.mono hBW.size)
      clear hBW
      have hBW := hBW_
      clear hBW_
      clear hbX
      go_wp2_with fail
      refine hK.out _ _ hBW (fun _ => ?_)
      clear hK K
      (try simp only [Act.put, aT, aZ, aS])
      refine wpAnyH_take (i := 9) (v := ?_) rfl (by kernel_rfl) (by kernel_rfl) (by kernel_rfl) (fun _ _ _ h => by cases h.1) (.inl ⟨by rfl, ?_⟩) (by assumption) ?_
      rotate_left
      · (intro w' hSw; (try dsimp only at hSw); (have hrd := HS.out.rd HX.out (HB.out.trans (hSw.mono hwz))); go_simp <;> with_reducible rfl)
      (try simp only [Act.put, aT, aZ, aS])
      refine wpAnyH_take (i := 10) (v := ?_) rfl (by kernel_rfl) (by kernel_rfl) (by kernel_rfl) (fun _ _ _ h => by cases h.1) (.inl ⟨by rfl, ?_⟩) (by assumption) ?_
      rotate_left
      · (intro w' hSw; (try dsimp only at hSw); (have hrd := HS.out.rd HX.out (HB.out.trans (hSw.mono hwz))); go_simp <;> with_reducible rfl)
      (try simp only [Act.put, aT, aZ, aS])
      refine wpAnyH_take (i := 11) (v := ?_) rfl (by kernel_rfl) (by kernel_rfl) (by kernel_rfl) (fun _ _ _ h => by cases h.1) (.inl ⟨by rfl, ?_⟩) (by assumption) ?_
      rotate_left
      · (intro w' hSw; (try dsimp only at hSw); (have hrd := HS.out.rd HX.out (HB.out.trans (hSw.mono hwz))); go_simp <;> with_reducible rfl)
      (try simp only [Act.put, aT, aZ, aS])
      refine wpAnyH_ready (rs := [13]) (by kernel_rfl) (by simp) ?_
      refine AllReadyH.cons rfl (fun K hK => ?_) ?_
      · have hx1 := hx0.row (tonC (afterT e.J x.l))
        have hB1 := below_setRow hBW hgl (tonC (afterT e.J x.l))
        rw [if_pos (by rfl)]
        refine wp_store_row 25 (.tmp 22) (.tmp 118) rfl gA (tonC (afterT e.J x.l)) rfl rfl 25 _ hx0 szTongue rfl (oneTon _) ?_
        refine hK.out _ _ hB1 (fun _ => ?_)
        generalize hW_ : wX.setRow gA (tonC (afterT e.J x.l)) = wS at hx1 hB1 ⊢
        clear hW_ hx0 hBW
        clear hK K
        (try simp only [Act.put, aT, aZ, aS])
        refine wpAnyH_ready (rs := [14]) (by kernel_rfl) (by simp) ?_
        refine AllReadyH.cons rfl (fun K hK => ?_) ?_
        · go_simp
          refine hK.out _ _ hB1 (fun _ => ?_)
          clear hK K
          (try simp only [Act.put, aT, aZ, aS])
          refine wpAnyH_done (by kernel_rfl) ?_ _
          exact ⟨rfl, _, _, _, _, _, _, _, _, _, _, _, _, gA, rfl, hB1, hx1⟩
        exact AllReadyH.nil
      exact AllReadyH.nil
    exact AllReadyH.nil
  exact AllReadyH.nil
end Go.Proofs.Ytdficjnnlaicpaa
