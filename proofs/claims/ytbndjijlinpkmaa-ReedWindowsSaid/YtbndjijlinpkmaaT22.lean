/- Part 22 of the proof: WinE, WinC. -/
import Derived.LoopN
import Derived.Test.YtbndjijlinpkmaaT21
import Derived.Test.YtbndjijlinpkmaaT12
/- The law ReedWindows: its loop and its end. -/
namespace Go.Proofs.Ytbndjijlinpkmaa
set_option linter.all false
open Go.RowKit
set_option maxHeartbeats 4000000 in
set_option maxRecDepth 1000000 in
theorem wlpart8 {w0 w : World} {u0 u1 u2 u3 u4 u5 u6 u7 u8 u9 u10 u11 u12 u13 u14 u15 u16 u17 u18 u19 u20 u21 u22 u23 u24 u25 u26 u27 u28 u29 u30 u31 u32 u33 u34 u35 u36 u37 u38 u39 u40 u41 u42 u43 u44 u45 u46 u47 u48 u49 u50 u51 u52 u53 u54 u55 u56 u57 u58 u59 u60 u61 u62 u63 u64 u65 u66 u67 u68 u69 u70 u71 u72 u73 u74 u75 u76 u77 u78 u79 u80 u81 u82 u83 u84 u85 u86 u87 u88 u89 u90 u91 u92 u93 u94 u95 u96 u97 u98 u99 u100 u101 u102 u103 u104 u105 u106 u107 u108 u109 u110 u111 u112 u113 u114 u115 u116 u117 u118 u119 u120 u121 u122 u123 u124 u125 u126 u127 u128 u129 u130 u131 u132 u133 u134 u135 u136 u137 u138 u139 u140 u141 u142 u143 u144 u145 u146 u147 u148 u149 u150 u151 u152 u153 u154 u155 u156 u157 u158 u159 u160 u161 u162 u163 u164 u165 u166 u167 u168 u169 u170 u171 u172 u173 u174 u175 u176 u177 : Value} (htun : TunOK) (hb0 : Below w0.heap.size w0 w) : Code.wp Try.prog wlrest8 (QWL w0) ⟨#[u0, u1, u2, u3, u4, u5, u6, u7, u8, u9, u10, u11, u12, u13, u14, u15, u16, u17, u18, u19, u20, u21, u22, u23, u24, u25, u26, u27, u28, u29, u30, u31, u32, u33, u34, u35, u36, u37, u38, u39, u40, u41, u42, u43, u44, u45, u46, u47, u48, u49, u50, u51, u52, u53, u54, u55, u56, u57, u58, u59, u60, u61, u62, u63, u64, u65, u66, u67, u68, u69, u70, u71, u72, u73, u74, u75, u76, u77, u78, u79, u80, u81, u82, u83, u84, u85, u86, u87, u88, u89, u90, u91, u92, u93, u94, u95, u96, u97, u98, u99, u100, u101, u102, u103, u104, u105, u106, u107, u108, u109, u110, u111, u112, u113, u114, u115, u116, u117, u118, u119, u120, u121, u122, u123, u124, u125, u126, u127, u128, u129, u130, u131, u132, u133, u134, u135, u136, u137, u138, u139, u140, u141, u142, u143, u144, u145, u146, u147, u148, u149, u150, u151, u152, u153, u154, u155, u156, u157, u158, u159, u160, u161, u162, u163, u164, u165, u166, u167, u168, u169, u170, u171, u172, u173, u174, u175, u176, u177], []⟩ w := by
  rw [wlrest8_eq]
  have HT := hidMk htun
  unfold QWL
  go_wp2_with (go_at_call 5; refine (HT.out _).mono ?_; rintro e w2 ⟨rfl, hb⟩)
  go_ret
  exact ⟨rfl, hb0.trans (hb.mono hb0.size)⟩
set_option maxHeartbeats 4000000 in
set_option maxRecDepth 1000000 in
theorem wlpart7 {w0 w1 : World} {g q : Nat} {es : List Ent} {rs : List Int} {u0 u1 u2 u3 u4 u5 u6 u7 u8 u9 u10 u11 u14 u15 u16 u17 u18 u19 u20 u21 u22 u23 u24 u25 u26 u27 u28 u29 u30 u31 u32 u33 u34 u35 u36 u37 u38 u39 u40 u41 u42 u43 u44 u45 u46 u47 u48 u49 u50 u51 u52 u53 u54 u55 u56 u57 u58 u59 u60 u61 u62 u63 u64 u65 u66 u67 u68 u69 u70 u71 u72 u73 u74 u75 u76 u77 u78 u79 u80 u81 u82 u83 u84 u85 u86 u87 u88 u89 u90 u91 u92 u93 u94 u95 u96 u97 u98 u99 u100 u101 u102 u103 u104 u105 u106 u107 u108 u109 u110 u111 u112 u113 u114 u115 u116 u117 u118 u119 u120 u121 u122 u123 u124 u125 u126 u127 u128 u129 u130 u131 u132 u133 u134 u135 u136 u137 u138 u139 u140 u141 u142 u143 u144 u145 u146 u147 u148 u149 u150 u151 u152 u153 u154 u155 u156 u157 u158 u159 u160 u161 u162 u163 u164 u165 u166 u167 u168 u169 u170 u171 u172 u173 u174 u175 u176 u177 : Value} (htun : TunOK) (hs : WL w0 w1 g q es rs) : Code.wp Try.prog wlrest7 (QWL w0) ⟨#[u0, u1, u2, u3, u4, u5, u6, u7, u8, u9, u10, u11, (.slice (some ⟨g, 0, none⟩) 4 4), (.slice (some ⟨q, 0, none⟩) 4 4), u14, u15, u16, u17, u18, u19, u20, u21, u22, u23, u24, u25, u26, u27, u28, u29, u30, u31, u32, u33, u34, u35, u36, u37, u38, u39, u40, u41, u42, u43, u44, u45, u46, u47, u48, u49, u50, u51, u52, u53, u54, u55, u56, u57, u58, u59, u60, u61, u62, u63, u64, u65, u66, u67, u68, u69, u70, u71, u72, u73, u74, u75, u76, u77, u78, u79, u80, u81, u82, u83, u84, u85, u86, u87, u88, u89, u90, u91, u92, u93, u94, u95, u96, u97, u98, u99, u100, u101, u102, u103, u104, u105, u106, u107, u108, u109, u110, u111, u112, u113, u114, u115, u116, u117, u118, u119, u120, u121, u122, u123, u124, u125, u126, u127, u128, u129, u130, u131, u132, u133, u134, u135, u136, u137, u138, u139, u140, u141, u142, u143, u144, u145, u146, u147, u148, u149, u150, u151, u152, u153, u154, u155, u156, u157, u158, u159, u160, u161, u162, u163, u164, u165, u166, u167, u168, u169, u170, u171, u172, u173, u174, u175, u176, u177], []⟩ w1 := by
  have HT := hidMk htun
  have HS := hidMk hs
  clear htun hs
  rw [wlrest7_cut]
  refine wp_seq_k fun K0 hK0 => ?_
  go_wp2_with fail
  refine wp_loop_rounds 5 ?_
  have HB := hidMk (Below.refl w1.heap.size w1)
  obtain ⟨e0, he0⟩ : ∃ e, es[0]? = some e := ⟨es[0]'(by rw [HS.out.len]; decide), List.getElem?_eq_getElem _⟩
  obtain ⟨r0, hr0⟩ : ∃ r, rs[0]? = some r := ⟨rs[0]'(by rw [HS.out.rlen]; decide), List.getElem?_eq_getElem _⟩
  obtain ⟨e1, he1⟩ : ∃ e, es[1]? = some e := ⟨es[1]'(by rw [HS.out.len]; decide), List.getElem?_eq_getElem _⟩
  obtain ⟨r1, hr1⟩ : ∃ r, rs[1]? = some r := ⟨rs[1]'(by rw [HS.out.rlen]; decide), List.getElem?_eq_getElem _⟩
  obtain ⟨e2, he2⟩ : ∃ e, es[2]? = some e := ⟨es[2]'(by rw [HS.out.len]; decide), List.getElem?_eq_getElem _⟩
  obtain ⟨r2, hr2⟩ : ∃ r, rs[2]? = some r := ⟨rs[2]'(by rw [HS.out.rlen]; decide), List.getElem?_eq_getElem _⟩
  obtain ⟨e3, he3⟩ : ∃ e, es[3]? = some e := ⟨es[3]'(by rw [HS.out.len]; decide), List.getElem?_eq_getElem _⟩
  obtain ⟨r3, hr3⟩ : ∃ r, rs[3]? = some r := ⟨rs[3]'(by rw [HS.out.rlen]; decide), List.getElem?_eq_getElem _⟩
  have HE := hidMk (show (es[0]? = some e0 ∧ rs[0]? = some r0) ∧ (es[1]? = some e1 ∧ rs[1]? = some r1) ∧ (es[2]? = some e2 ∧ rs[2]? = some r2) ∧ (es[3]? = some e3 ∧ rs[3]? = some r3) from ⟨⟨he0, hr0⟩, ⟨he1, hr1⟩, ⟨he2, hr2⟩, ⟨he3, hr3⟩⟩)
  clear he0 hr0 he1 hr1 he2 hr2 he3 hr3
  rw [rounds_succ]
  go_wp2_with fail
  refine lbp0 (k := 0) HS.out HE.out.1.1 HE.out.1.2 (by decide) ?_ HB.out
  clear HB
  unfold LQ
  intros
  rename_i hB'
  have HB := hidMk hB'
  clear hB'
  go_wp2_with fail
  rw [rounds_succ]
  go_wp2_with fail
  refine lbp0 (k := 1) HS.out HE.out.2.1.1 HE.out.2.1.2 (by decide) ?_ HB.out
  clear HB
  unfold LQ
  intros
  rename_i hB'
  have HB := hidMk hB'
  clear hB'
  go_wp2_with fail
  rw [rounds_succ]
  go_wp2_with fail
  refine lbp0 (k := 2) HS.out HE.out.2.2.1.1 HE.out.2.2.1.2 (by decide) ?_ HB.out
  clear HB
  unfold LQ
  intros
  rename_i hB'
  have HB := hidMk hB'
  clear hB'
  go_wp2_with fail
  rw [rounds_succ]
  go_wp2_with fail
  refine lbp0 (k := 3) HS.out HE.out.2.2.2.1 HE.out.2.2.2.2 (by decide) ?_ HB.out
  clear HB
  unfold LQ
  intros
  rename_i hB'
  have HB := hidMk hB'
  clear hB'
  go_wp2_with fail
  rw [rounds_succ]
  go_wp2_with fail
  exact wlpart8 HT.out (HS.out.b0.trans (HB.out.mono HS.out.b0.size))
end Go.Proofs.Ytbndjijlinpkmaa
/- The law ReedWindows: the lists of jobs and readings. -/
namespace Go.Proofs.Ytbndjijlinpkmaa
set_option linter.all false
open Go.RowKit
set_option maxHeartbeats 4000000 in
set_option maxRecDepth 1000000 in
theorem wlpart6 {w0 w : World} {g4 g5 g10 g11 b : Nat} {J M : Jb} {a : Option Addr} {n c : Nat} {ma : Option Addr} {mn mc : Nat} {m1 m2 r : Int} {va : Option Addr} {on vc : Nat} {O : Jb} {u0 u1 u3 u6 u7 u8 u12 u13 u14 u15 u16 u17 u18 u19 u20 u21 u22 u23 u24 u25 u26 u27 u28 u29 u30 u31 u32 u33 u34 u35 u36 u37 u38 u39 u40 u41 u42 u43 u44 u45 u46 u47 u48 u49 u50 u51 u52 u53 u54 u55 u56 u57 u58 u59 u60 u61 u62 u63 u64 u65 u66 u67 u68 u69 u70 u71 u72 u73 u74 u75 u76 u77 u78 u79 u80 u81 u82 u83 u84 u85 u86 u87 u88 u89 u90 u91 u92 u93 u94 u95 u96 u97 u98 u99 u100 u101 u102 u103 u104 u105 u106 u107 u108 u109 u110 u111 u112 u113 u114 u115 u116 u117 u118 u119 u120 u121 u122 u123 u124 u125 u126 u127 u128 u129 u130 u131 u132 u133 u134 u135 u136 u137 u138 u139 u140 u141 u142 u143 u144 u145 u146 u147 u148 u149 u150 u151 u152 u153 u154 u155 u156 u157 u158 u159 u160 u161 u162 u163 u164 u165 u166 u167 u168 u169 u170 u171 u172 u173 u174 u175 u176 u177 : Value} (htun : TunOK) (hs : W4S w0 w g4 g5 g10 b J M a n c ma mn mc m1 m2 r) (hO : Bk w g11 30 (jobC O (.slice va on vc))) (hOg : Rg w w.heap.size va O.sh) (hon : on = O.sh.length) (hon6 : on ≤ 6) : Code.wp Try.prog wlrest6 (QWL w0) ⟨#[u0, u1, (.int .i64 r), u3, (.pointer (some ⟨g4, 0, none⟩)), (.pointer (some ⟨g5, 0, none⟩)), u6, u7, u8, (.pointer (some ⟨b, 0, none⟩)), (.pointer (some ⟨g10, 0, none⟩)), (.pointer (some ⟨g11, 0, none⟩)), u12, u13, u14, u15, u16, u17, u18, u19, u20, u21, u22, u23, u24, u25, u26, u27, u28, u29, u30, u31, u32, u33, u34, u35, u36, u37, u38, u39, u40, u41, u42, u43, u44, u45, u46, u47, u48, u49, u50, u51, u52, u53, u54, u55, u56, u57, u58, u59, u60, u61, u62, u63, u64, u65, u66, u67, u68, u69, u70, u71, u72, u73, u74, u75, u76, u77, u78, u79, u80, u81, u82, u83, u84, u85, u86, u87, u88, u89, u90, u91, u92, u93, u94, u95, u96, u97, u98, u99, u100, u101, u102, u103, u104, u105, u106, u107, u108, u109, u110, u111, u112, u113, u114, u115, u116, u117, u118, u119, u120, u121, u122, u123, u124, u125, u126, u127, u128, u129, u130, u131, u132, u133, u134, u135, u136, u137, u138, u139, u140, u141, u142, u143, u144, u145, u146, u147, u148, u149, u150, u151, u152, u153, u154, u155, u156, u157, u158, u159, u160, u161, u162, u163, u164, u165, u166, u167, u168, u169, u170, u171, u172, u173, u174, u175, u176, u177], []⟩ w := by
  rw [wlrest6_eq]
  have hok := check_ok hs.ck
  have hp1 := hok.inn.p1
  have hp2 := hok.inn.p2
  have hpp := hok.p
  have hme := hok.inn.me
  obtain ⟨hme1, hme2⟩ := hme
  have ew1 : IntKind.i64.wrap (M.p1 - M.me) = M.p1 - M.me := IntWalk.i64_in _ (by omega)
  have ew2 : IntKind.i64.wrap (M.p1 - M.me - 1) = M.p1 - M.me - 1 := IntWalk.i64_in _ (by omega)
  have ew3 : IntKind.i64.wrap (M.p2 + M.me) = M.p2 + M.me := IntWalk.i64_in _ (by omega)
  have ew4 : IntKind.i64.wrap (M.p2 + M.me + 1) = M.p2 + M.me + 1 := IntWalk.i64_in _ (by omega)
  have HOG := hidMk hOg
  have HON := hidMk hon
  refine wp_seq_k fun K hKK => ?_
  refine region_via (R := fun a_ e a' w' => e = .normal ∧ ∃ (v45 v46 v47 v48 v49 v50 v51 v52 v53 v54 v55 v56 v57 v58 v59 v60 v61 v62 v63 v64 v65 v66 v67 v68 v69 v70 v71 : Value) (g q : Nat) (x : Int), a' = (((((((((((((((((((((((((((((a_.put (some 45) v45).put (some 46) v46).put (some 47) v47).put (some 48) v48).put (some 49) v49).put (some 50) v50).put (some 51) v51).put (some 52) v52).put (some 53) v53).put (some 54) v54).put (some 55) v55).put (some 56) v56).put (some 57) v57).put (some 58) v58).put (some 59) v59).put (some 60) v60).put (some 61) v61).put (some 62) v62).put (some 63) v63).put (some 64) v64).put (some 65) v65).put (some 66) v66).put (some 67) v67).put (some 68) v68).put (some 69) v69).put (some 70) v70).put (some 71) v71).put (some 12) (.slice (some ⟨g, 0, none⟩) 4 4)).put (some 13) (.slice (some ⟨q, 0, none⟩) 4 4)) ∧ (M.p1 - M.me - 1 ≤ x ∧ x ≤ M.p2 + M.me + 1) ∧ W4S w0 w' g4 g5 g10 b J M a n c ma mn mc m1 m2 r ∧ Bk w' g 30 (([⟨J, a, n, c⟩, ⟨M, ma, mn, mc⟩, ⟨O, va, on, vc⟩, ⟨M, ma, mn, mc⟩] : List Ent).flatMap fun e => e.V.toList).toArray ∧ Bk w' q 3 #[.int .i64 r, .int .i64 x, .int .i64 r, .int .i64 r] ∧ Rg w' w'.heap.size va O.sh) ?_ ?_
  rotate_left
  · rintro e a' w' ⟨rfl, v45, v46, v47, v48, v49, v50, v51, v52, v53, v54, v55, v56, v57, v58, v59, v60, v61, v62, v63, v64, v65, v66, v67, v68, v69, v70, v71, g, q, x, rfl, hx, hs', hA, hI, hG⟩
    refine hKK _ _ ?_
    simp only [Act.put, List.setIfInBounds_toArray, List.set_cons_zero, List.set_cons_succ]
    refine wlpart7 (es := [⟨J, a, n, c⟩, ⟨M, ma, mn, mc⟩, ⟨O, va, on, vc⟩, ⟨M, ma, mn, mc⟩]) (rs := [r, x, r, r]) htun ⟨hs'.b0, hA, hI, rfl, rfl, ?_, ?_⟩
    · have hm4 : mn ≤ 30 := by have h4 := hok.inn.len; have := hs'.me; omega
      intro e he
      simp only [List.mem_cons, List.not_mem_nil, or_false] at he
      rcases he with rfl | rfl | rfl | rfl
      · exact ⟨hs'.rg, hs'.en, by have := hs'.n20; show n ≤ 30; omega⟩
      · exact ⟨hs'.mg, hs'.me, hm4⟩
      · exact ⟨hG, HON.out, by show on ≤ 30; omega⟩
      · exact ⟨hs'.mg, hs'.me, hm4⟩
    · have hri := hs'.ri
      intro z hz
      simp only [List.mem_cons, List.not_mem_nil, or_false] at hz
      rcases hz with rfl | rfl | rfl | rfl
      · exact hri
      · omega
      · exact hri
      · exact hri
  have hS' : W4S w0 w.drew g4 g5 g10 b J M a n c ma mn mc m1 m2 r ∧ Bk w.drew g11 30 (jobC O (.slice va on vc)) := ⟨hs.next (Below.refl _ _).drew, hO.drew⟩
  refine wp_region_held_drew (S := fun w' => W4S w0 w' g4 g5 g10 b J M a n c ma mn mc m1 m2 r ∧ Bk w' g11 30 (jobC O (.slice va on vc))) (by kernel_rfl) hS' (fun hS0 => ?_)
  have hG := HOG.out.up (Below.refl w.heap.size w).drew
  clear hs hO hOg hon hS'
  generalize hWd : w.drew = wd at hS0 hG ⊢
  clear hWd
  have hS := hS0
  refine wpAnyH_take (i := 0) (oi := ⟨some 45, .load 30 (.tmp 4), 30, "law.go:29", #[], none⟩) rfl (by kernel_rfl) (by kernel_rfl) (by kernel_rfl) (fun _ _ _ h => nomatch h.1) (yields_row (by rfl) 30 _ rfl g4 (jobC J (.slice a n c)) rfl 30 (fun w hw => hw.1.job) Try.underlying30 szJob) (by assumption) ?_
  (try simp only [Act.put, List.setIfInBounds_toArray, List.set_cons_zero, List.set_cons_succ])
  refine wpAnyH_take (i := 1) (oi := ⟨some 46, .load 30 (.tmp 10), 30, "law.go:29", #[], none⟩) rfl (by kernel_rfl) (by kernel_rfl) (by kernel_rfl) (fun _ _ _ h => nomatch h.1) (yields_row (by rfl) 30 _ rfl g10 (jobC M (.slice ma mn mc)) rfl 30 (fun w hw => hw.1.mj) Try.underlying30 szJob) (by assumption) ?_
  (try simp only [Act.put, List.setIfInBounds_toArray, List.set_cons_zero, List.set_cons_succ])
  refine wpAnyH_take (i := 2) (oi := ⟨some 47, .load 30 (.tmp 11), 30, "law.go:29", #[], none⟩) rfl (by kernel_rfl) (by kernel_rfl) (by kernel_rfl) (fun _ _ _ h => nomatch h.1) (yields_row (by rfl) 30 _ rfl g11 (jobC O (.slice va on vc)) rfl 30 (fun w hw => hw.2) Try.underlying30 szJob) (by assumption) ?_
  (try simp only [Act.put, List.setIfInBounds_toArray, List.set_cons_zero, List.set_cons_succ])
  refine wpAnyH_take (i := 3) (oi := ⟨some 48, .load 30 (.tmp 10), 30, "law.go:29", #[], none⟩) rfl (by kernel_rfl) (by kernel_rfl) (by kernel_rfl) (fun _ _ _ h => nomatch h.1) (yields_row (by rfl) 30 _ rfl g10 (jobC M (.slice ma mn mc)) rfl 30 (fun w hw => hw.1.mj) Try.underlying30 szJob) (by assumption) ?_
  (try simp only [Act.put, List.setIfInBounds_toArray, List.set_cons_zero, List.set_cons_succ])
  refine wpAnyH_take (i := 5) (oi := ⟨some 50, .move (.tmp 2), 3, "law.go:29", #[⟨27, .gcOnly .lateStores⟩], none⟩) (v := ?_) rfl (by kernel_rfl) (by kernel_rfl) (by kernel_rfl) (fun _ _ _ h => nomatch h.1) (.inl ⟨by rfl, ?_⟩) (by assumption) ?_
  rotate_left
  · (intro w' hSw; (try dsimp only at hSw); (have p0 := hSw.1.mj.at_ 0 (.int .i64 M.p1) rfl; have p1 := hSw.1.mj.at_ 1 (.int .i64 M.p2) rfl; have p17 := hSw.1.mj.at_ 17 (.int .i64 M.me) rfl); go_simp <;> with_reducible rfl)
  (try simp only [Act.put, List.setIfInBounds_toArray, List.set_cons_zero, List.set_cons_succ])
  refine wpAnyH_take (i := 6) (oi := ⟨some 51, .move (.tmp 9), 33, "law.go:29", #[], none⟩) (v := ?_) rfl (by kernel_rfl) (by kernel_rfl) (by kernel_rfl) (fun _ _ _ h => nomatch h.1) (.inl ⟨by rfl, ?_⟩) (by assumption) ?_
  rotate_left
  · (intro w' hSw; (try dsimp only at hSw); (have p0 := hSw.1.mj.at_ 0 (.int .i64 M.p1) rfl; have p1 := hSw.1.mj.at_ 1 (.int .i64 M.p2) rfl; have p17 := hSw.1.mj.at_ 17 (.int .i64 M.me) rfl); go_simp <;> with_reducible rfl)
  (try simp only [Act.put, List.setIfInBounds_toArray, List.set_cons_zero, List.set_cons_succ])
  refine wpAnyH_take (i := 7) (oi := ⟨some 52, .fieldAddr 30 (.tmp 10) 0, 0, "law.go:29", #[], none⟩) (v := ?_) rfl (by kernel_rfl) (by kernel_rfl) (by kernel_rfl) (fun _ _ _ h => nomatch h.1) (.inl ⟨by rfl, ?_⟩) (by assumption) ?_
  rotate_left
  · (intro w' hSw; (try dsimp only at hSw); (have p0 := hSw.1.mj.at_ 0 (.int .i64 M.p1) rfl; have p1 := hSw.1.mj.at_ 1 (.int .i64 M.p2) rfl; have p17 := hSw.1.mj.at_ 17 (.int .i64 M.me) rfl); go_simp <;> with_reducible rfl)
  (try simp only [Act.put, List.setIfInBounds_toArray, List.set_cons_zero, List.set_cons_succ])
  refine wpAnyH_take (i := 8) (oi := ⟨some 53, .fieldAddr 25 (.tmp 52) 0, 0, "law.go:29", #[⟨7, .data⟩], none⟩) (v := ?_) rfl (by kernel_rfl) (by kernel_rfl) (by kernel_rfl) (fun _ _ _ h => nomatch h.1) (.inl ⟨by rfl, ?_⟩) (by assumption) ?_
  rotate_left
  · (intro w' hSw; (try dsimp only at hSw); (have p0 := hSw.1.mj.at_ 0 (.int .i64 M.p1) rfl; have p1 := hSw.1.mj.at_ 1 (.int .i64 M.p2) rfl; have p17 := hSw.1.mj.at_ 17 (.int .i64 M.me) rfl); go_simp <;> with_reducible rfl)
  (try simp only [Act.put, List.setIfInBounds_toArray, List.set_cons_zero, List.set_cons_succ])
  refine wpAnyH_take (i := 9) (oi := ⟨some 54, .fieldAddr 23 (.tmp 53) 0, 0, "law.go:29", #[⟨8, .data⟩], none⟩) (v := ?_) rfl (by kernel_rfl) (by kernel_rfl) (by kernel_rfl) (fun _ _ _ h => nomatch h.1) (.inl ⟨by rfl, ?_⟩) (by assumption) ?_
  rotate_left
  · (intro w' hSw; (try dsimp only at hSw); (have p0 := hSw.1.mj.at_ 0 (.int .i64 M.p1) rfl; have p1 := hSw.1.mj.at_ 1 (.int .i64 M.p2) rfl; have p17 := hSw.1.mj.at_ 17 (.int .i64 M.me) rfl); go_simp <;> with_reducible rfl)
  (try simp only [Act.put, List.setIfInBounds_toArray, List.set_cons_zero, List.set_cons_succ])
  refine wpAnyH_take (i := 10) (oi := ⟨some 55, .load 3 (.tmp 54), 3, "law.go:29", #[⟨9, .data⟩], none⟩) (v := ?_) rfl (by kernel_rfl) (by kernel_rfl) (by kernel_rfl) (fun _ _ _ h => nomatch h.1) (.inl ⟨by rfl, ?_⟩) (by assumption) ?_
  rotate_left
  · (intro w' hSw; (try dsimp only at hSw); (have p0 := hSw.1.mj.at_ 0 (.int .i64 M.p1) rfl; have p1 := hSw.1.mj.at_ 1 (.int .i64 M.p2) rfl; have p17 := hSw.1.mj.at_ 17 (.int .i64 M.me) rfl); go_simp <;> with_reducible rfl)
  (try simp only [Act.put, List.setIfInBounds_toArray, List.set_cons_zero, List.set_cons_succ])
  refine wpAnyH_take (i := 11) (oi := ⟨some 56, .fieldAddr 30 (.tmp 10) 4, 0, "law.go:29", #[], none⟩) (v := ?_) rfl (by kernel_rfl) (by kernel_rfl) (by kernel_rfl) (fun _ _ _ h => nomatch h.1) (.inl ⟨by rfl, ?_⟩) (by assumption) ?_
  rotate_left
  · (intro w' hSw; (try dsimp only at hSw); (have p0 := hSw.1.mj.at_ 0 (.int .i64 M.p1) rfl; have p1 := hSw.1.mj.at_ 1 (.int .i64 M.p2) rfl; have p17 := hSw.1.mj.at_ 17 (.int .i64 M.me) rfl); go_simp <;> with_reducible rfl)
  (try simp only [Act.put, List.setIfInBounds_toArray, List.set_cons_zero, List.set_cons_succ])
  refine wpAnyH_take (i := 12) (oi := ⟨some 57, .load 3 (.tmp 56), 3, "law.go:29", #[⟨11, .data⟩], none⟩) (v := ?_) rfl (by kernel_rfl) (by kernel_rfl) (by kernel_rfl) (fun _ _ _ h => nomatch h.1) (.inl ⟨by rfl, ?_⟩) (by assumption) ?_
  rotate_left
  · (intro w' hSw; (try dsimp only at hSw); (have p0 := hSw.1.mj.at_ 0 (.int .i64 M.p1) rfl; have p1 := hSw.1.mj.at_ 1 (.int .i64 M.p2) rfl; have p17 := hSw.1.mj.at_ 17 (.int .i64 M.me) rfl); go_simp <;> with_reducible rfl)
  (try simp only [Act.put, List.setIfInBounds_toArray, List.set_cons_zero, List.set_cons_succ])
  refine wpAnyH_take (i := 13) (oi := ⟨some 58, .binOp .sub 3 (.tmp 55) (.tmp 57) 3, 3, "law.go:29", #[⟨10, .data⟩, ⟨12, .data⟩], none⟩) (v := ?_) rfl (by kernel_rfl) (by kernel_rfl) (by kernel_rfl) (fun _ _ _ h => nomatch h.1) (.inl ⟨by rfl, ?_⟩) (by assumption) ?_
  rotate_left
  · (intro w' hSw; (try dsimp only at hSw); (have p0 := hSw.1.mj.at_ 0 (.int .i64 M.p1) rfl; have p1 := hSw.1.mj.at_ 1 (.int .i64 M.p2) rfl; have p17 := hSw.1.mj.at_ 17 (.int .i64 M.me) rfl); go_simp <;> with_reducible rfl)
  (try simp only [Act.put, List.setIfInBounds_toArray, List.set_cons_zero, List.set_cons_succ])
  refine wpAnyH_take (i := 14) (oi := ⟨some 59, .binOp .sub 3 (.tmp 58) (.const (.int .i64 1)) 3, 3, "law.go:29", #[⟨13, .data⟩], none⟩) (v := ?_) rfl (by kernel_rfl) (by kernel_rfl) (by kernel_rfl) (fun _ _ _ h => nomatch h.1) (.inl ⟨by rfl, ?_⟩) (by assumption) ?_
  rotate_left
  · (intro w' hSw; (try dsimp only at hSw); (have p0 := hSw.1.mj.at_ 0 (.int .i64 M.p1) rfl; have p1 := hSw.1.mj.at_ 1 (.int .i64 M.p2) rfl; have p17 := hSw.1.mj.at_ 17 (.int .i64 M.me) rfl); go_simp <;> with_reducible rfl)
  (try simp only [Act.put, List.setIfInBounds_toArray, List.set_cons_zero, List.set_cons_succ])
  refine wpAnyH_take (i := 15) (oi := ⟨some 60, .fieldAddr 30 (.tmp 10) 0, 0, "law.go:29", #[], none⟩) (v := ?_) rfl (by kernel_rfl) (by kernel_rfl) (by kernel_rfl) (fun _ _ _ h => nomatch h.1) (.inl ⟨by rfl, ?_⟩) (by assumption) ?_
  rotate_left
  · (intro w' hSw; (try dsimp only at hSw); (have p0 := hSw.1.mj.at_ 0 (.int .i64 M.p1) rfl; have p1 := hSw.1.mj.at_ 1 (.int .i64 M.p2) rfl; have p17 := hSw.1.mj.at_ 17 (.int .i64 M.me) rfl); go_simp <;> with_reducible rfl)
  (try simp only [Act.put, List.setIfInBounds_toArray, List.set_cons_zero, List.set_cons_succ])
  refine wpAnyH_take (i := 16) (oi := ⟨some 61, .fieldAddr 25 (.tmp 60) 0, 0, "law.go:29", #[⟨15, .data⟩], none⟩) (v := ?_) rfl (by kernel_rfl) (by kernel_rfl) (by kernel_rfl) (fun _ _ _ h => nomatch h.1) (.inl ⟨by rfl, ?_⟩) (by assumption) ?_
  rotate_left
  · (intro w' hSw; (try dsimp only at hSw); (have p0 := hSw.1.mj.at_ 0 (.int .i64 M.p1) rfl; have p1 := hSw.1.mj.at_ 1 (.int .i64 M.p2) rfl; have p17 := hSw.1.mj.at_ 17 (.int .i64 M.me) rfl); go_simp <;> with_reducible rfl)
  (try simp only [Act.put, List.setIfInBounds_toArray, List.set_cons_zero, List.set_cons_succ])
  refine wpAnyH_take (i := 17) (oi := ⟨some 62, .fieldAddr 23 (.tmp 61) 1, 0, "law.go:29", #[⟨16, .data⟩], none⟩) (v := ?_) rfl (by kernel_rfl) (by kernel_rfl) (by kernel_rfl) (fun _ _ _ h => nomatch h.1) (.inl ⟨by rfl, ?_⟩) (by assumption) ?_
  rotate_left
  · (intro w' hSw; (try dsimp only at hSw); (have p0 := hSw.1.mj.at_ 0 (.int .i64 M.p1) rfl; have p1 := hSw.1.mj.at_ 1 (.int .i64 M.p2) rfl; have p17 := hSw.1.mj.at_ 17 (.int .i64 M.me) rfl); go_simp <;> with_reducible rfl)
  (try simp only [Act.put, List.setIfInBounds_toArray, List.set_cons_zero, List.set_cons_succ])
  refine wpAnyH_take (i := 18) (oi := ⟨some 63, .load 3 (.tmp 62), 3, "law.go:29", #[⟨17, .data⟩], none⟩) (v := ?_) rfl (by kernel_rfl) (by kernel_rfl) (by kernel_rfl) (fun _ _ _ h => nomatch h.1) (.inl ⟨by rfl, ?_⟩) (by assumption) ?_
  rotate_left
  · (intro w' hSw; (try dsimp only at hSw); (have p0 := hSw.1.mj.at_ 0 (.int .i64 M.p1) rfl; have p1 := hSw.1.mj.at_ 1 (.int .i64 M.p2) rfl; have p17 := hSw.1.mj.at_ 17 (.int .i64 M.me) rfl); go_simp <;> with_reducible rfl)
  (try simp only [Act.put, List.setIfInBounds_toArray, List.set_cons_zero, List.set_cons_succ])
  refine wpAnyH_take (i := 19) (oi := ⟨some 64, .fieldAddr 30 (.tmp 10) 4, 0, "law.go:29", #[], none⟩) (v := ?_) rfl (by kernel_rfl) (by kernel_rfl) (by kernel_rfl) (fun _ _ _ h => nomatch h.1) (.inl ⟨by rfl, ?_⟩) (by assumption) ?_
  rotate_left
  · (intro w' hSw; (try dsimp only at hSw); (have p0 := hSw.1.mj.at_ 0 (.int .i64 M.p1) rfl; have p1 := hSw.1.mj.at_ 1 (.int .i64 M.p2) rfl; have p17 := hSw.1.mj.at_ 17 (.int .i64 M.me) rfl); go_simp <;> with_reducible rfl)
  (try simp only [Act.put, List.setIfInBounds_toArray, List.set_cons_zero, List.set_cons_succ])
  refine wpAnyH_take (i := 20) (oi := ⟨some 65, .load 3 (.tmp 64), 3, "law.go:29", #[⟨19, .data⟩], none⟩) (v := ?_) rfl (by kernel_rfl) (by kernel_rfl) (by kernel_rfl) (fun _ _ _ h => nomatch h.1) (.inl ⟨by rfl, ?_⟩) (by assumption) ?_
  rotate_left
  · (intro w' hSw; (try dsimp only at hSw); (have p0 := hSw.1.mj.at_ 0 (.int .i64 M.p1) rfl; have p1 := hSw.1.mj.at_ 1 (.int .i64 M.p2) rfl; have p17 := hSw.1.mj.at_ 17 (.int .i64 M.me) rfl); go_simp <;> with_reducible rfl)
  (try simp only [Act.put, List.setIfInBounds_toArray, List.set_cons_zero, List.set_cons_succ])
  refine wpAnyH_take (i := 21) (oi := ⟨some 66, .binOp .add 3 (.tmp 63) (.tmp 65) 3, 3, "law.go:29", #[⟨18, .data⟩, ⟨20, .data⟩], none⟩) (v := ?_) rfl (by kernel_rfl) (by kernel_rfl) (by kernel_rfl) (fun _ _ _ h => nomatch h.1) (.inl ⟨by rfl, ?_⟩) (by assumption) ?_
  rotate_left
  · (intro w' hSw; (try dsimp only at hSw); (have p0 := hSw.1.mj.at_ 0 (.int .i64 M.p1) rfl; have p1 := hSw.1.mj.at_ 1 (.int .i64 M.p2) rfl; have p17 := hSw.1.mj.at_ 17 (.int .i64 M.me) rfl); go_simp <;> with_reducible rfl)
  (try simp only [Act.put, List.setIfInBounds_toArray, List.set_cons_zero, List.set_cons_succ])
  refine wpAnyH_take (i := 22) (oi := ⟨some 67, .binOp .add 3 (.tmp 66) (.const (.int .i64 1)) 3, 3, "law.go:29", #[⟨21, .data⟩], none⟩) (v := ?_) rfl (by kernel_rfl) (by kernel_rfl) (by kernel_rfl) (fun _ _ _ h => nomatch h.1) (.inl ⟨by rfl, ?_⟩) (by assumption) ?_
  rotate_left
  · (intro w' hSw; (try dsimp only at hSw); (have p0 := hSw.1.mj.at_ 0 (.int .i64 M.p1) rfl; have p1 := hSw.1.mj.at_ 1 (.int .i64 M.p2) rfl; have p17 := hSw.1.mj.at_ 17 (.int .i64 M.me) rfl); go_simp <;> with_reducible rfl)
  (try simp only [Act.put, List.setIfInBounds_toArray, List.set_cons_zero, List.set_cons_succ])
  refine wpAnyH_take (i := 24) (oi := ⟨some 69, .move (.tmp 2), 3, "law.go:29", #[⟨27, .gcOnly .lateStores⟩], none⟩) (v := ?_) rfl (by kernel_rfl) (by kernel_rfl) (by kernel_rfl) (fun _ _ _ h => nomatch h.1) (.inl ⟨by rfl, ?_⟩) (by assumption) ?_
  rotate_left
  · (intro w' hSw; (try dsimp only at hSw); (have p0 := hSw.1.mj.at_ 0 (.int .i64 M.p1) rfl; have p1 := hSw.1.mj.at_ 1 (.int .i64 M.p2) rfl; have p17 := hSw.1.mj.at_ 17 (.int .i64 M.me) rfl); go_simp <;> with_reducible rfl)
  (try simp only [Act.put, List.setIfInBounds_toArray, List.set_cons_zero, List.set_cons_succ])
  refine wpAnyH_take (i := 25) (oi := ⟨some 70, .move (.tmp 2), 3, "law.go:29", #[⟨27, .gcOnly .lateStores⟩], none⟩) (v := ?_) rfl (by kernel_rfl) (by kernel_rfl) (by kernel_rfl) (fun _ _ _ h => nomatch h.1) (.inl ⟨by rfl, ?_⟩) (by assumption) ?_
  rotate_left
  · (intro w' hSw; (try dsimp only at hSw); (have p0 := hSw.1.mj.at_ 0 (.int .i64 M.p1) rfl; have p1 := hSw.1.mj.at_ 1 (.int .i64 M.p2) rfl; have p17 := hSw.1.mj.at_ 17 (.int .i64 M.me) rfl); go_simp <;> with_reducible rfl)
  (try simp only [Act.put, List.setIfInBounds_toArray, List.set_cons_zero, List.set_cons_succ])
  refine wpAnyH_ready (rs := [4, 23]) (by kernel_rfl) (by simp) ?_
  refine AllReadyH.cons (o := ⟨some 49, .buildSlice 37 4 #[(0, .tmp 45), (1, .tmp 46), (2, .tmp 47), (3, .tmp 48)], 37, "law.go:29", #[⟨0, .data⟩, ⟨1, .data⟩, ⟨2, .data⟩, ⟨3, .data⟩], none⟩) rfl (fun K hK => ?_) ?_
  · have hA : Bk (wd.alloc (.cells (([⟨J, a, n, c⟩, ⟨M, ma, mn, mc⟩, ⟨O, va, on, vc⟩, ⟨M, ma, mn, mc⟩] : List Ent).flatMap fun e => e.V.toList).toArray 30)) wd.heap.size 30 (([⟨J, a, n, c⟩, ⟨M, ma, mn, mc⟩, ⟨O, va, on, vc⟩, ⟨M, ma, mn, mc⟩] : List Ent).flatMap fun e => e.V.toList).toArray := Bk.new _ _ _
    have hS_ : W4S w0 (wd.alloc (.cells (([⟨J, a, n, c⟩, ⟨M, ma, mn, mc⟩, ⟨O, va, on, vc⟩, ⟨M, ma, mn, mc⟩] : List Ent).flatMap fun e => e.V.toList).toArray 30)) g4 g5 g10 b J M a n c ma mn mc m1 m2 r ∧ Bk (wd.alloc (.cells (([⟨J, a, n, c⟩, ⟨M, ma, mn, mc⟩, ⟨O, va, on, vc⟩, ⟨M, ma, mn, mc⟩] : List Ent).flatMap fun e => e.V.toList).toArray 30)) g11 30 (jobC O (.slice va on vc)) := ⟨hS.1.next ((Below.refl _ _).alloc (Nat.le_refl _) _), hS.2.alloc _⟩
    have hG_ : Rg (wd.alloc (.cells (([⟨J, a, n, c⟩, ⟨M, ma, mn, mc⟩, ⟨O, va, on, vc⟩, ⟨M, ma, mn, mc⟩] : List Ent).flatMap fun e => e.V.toList).toArray 30)) (wd.alloc (.cells (([⟨J, a, n, c⟩, ⟨M, ma, mn, mc⟩, ⟨O, va, on, vc⟩, ⟨M, ma, mn, mc⟩] : List Ent).flatMap fun e => e.V.toList).toArray 30)).heap.size va O.sh := hG.up ((Below.refl _ _).alloc (Nat.le_refl _) _)
    go_simp
    show K _ (wd.alloc (.cells (([⟨J, a, n, c⟩, ⟨M, ma, mn, mc⟩, ⟨O, va, on, vc⟩, ⟨M, ma, mn, mc⟩] : List Ent).flatMap fun e => e.V.toList).toArray 30))
    refine hK.out _ _ hS_ (fun _ => ?_)
    clear hS hG 
    generalize hW_ : (wd.alloc (.cells (([⟨J, a, n, c⟩, ⟨M, ma, mn, mc⟩, ⟨O, va, on, vc⟩, ⟨M, ma, mn, mc⟩] : List Ent).flatMap fun e => e.V.toList).toArray 30)) = wA at hA hS_ hG_  ⊢
    clear hW_
    have hS := hS_
    have hG := hG_
    clear hS_ hG_
    clear hK K
    (try simp only [Act.put, List.setIfInBounds_toArray, List.set_cons_zero, List.set_cons_succ])
    refine wpAnyH_ready (rs := [23]) (by kernel_rfl) (by simp) ?_
    refine AllReadyH.cons (o := ⟨some 68, .call { callee := .value (.func 9), args := #[.tmp 51, .tmp 59, .tmp 67], argTypes := #[33, 3, 3] }, 3, "law.go:29", #[⟨6, .data⟩, ⟨14, .data⟩, ⟨22, .data⟩], none⟩) rfl (fun K hK => ?_) ?_
    · go_simp
      go_at_call 9
      refine (withinP b (M.p1 - M.me - 1) (M.p2 + M.me + 1) _ hS.1.pt (by omega)).mono ?_
      rintro e wX ⟨x, rfl, hx, hk4, hp4⟩
      have hS_ : W4S w0 wX g4 g5 g10 b J M a n c ma mn mc m1 m2 r ∧ Bk wX g11 30 (jobC O (.slice va on vc)) := ⟨hS.1.pot hk4 hp4, hS.2.pb hk4 hS.2.lt (hS.1.pt.ne hS.2 (by simp [jobC]))⟩
      have hG_ : Rg wX wX.heap.size va O.sh := hG.pb hS.1.pt hk4
      have hA_ := hA.pb hk4 hA.lt (hS.1.pt.ne hA (by simp [Ent.V, jobC]))
      clear hS hG hA hk4 hp4
      have hS := hS_
      have hG := hG_
      clear hS_ hG_
      have hA := hA_
      clear hA_
      go_wp2_with fail
      refine hK.out _ _ hS (fun _ => ?_)
      clear hK K
      (try simp only [Act.put, List.setIfInBounds_toArray, List.set_cons_zero, List.set_cons_succ])
      refine wpAnyH_ready (rs := [26, 27]) (by kernel_rfl) (by simp) ?_
      refine AllReadyH.cons (o := ⟨some 71, .buildSlice 31 4 #[(0, .tmp 50), (1, .tmp 68), (2, .tmp 69), (3, .tmp 70)], 31, "law.go:29", #[⟨5, .data⟩, ⟨23, .data⟩, ⟨24, .data⟩, ⟨25, .data⟩, ⟨27, .gcOnly .lateStores⟩], none⟩) rfl (fun K hK => ?_) ?_
      · have hI : Bk (wX.alloc (.cells #[.int .i64 r, .int .i64 x, .int .i64 r, .int .i64 r] 3)) wX.heap.size 3 #[.int .i64 r, .int .i64 x, .int .i64 r, .int .i64 r] := Bk.new _ _ _
        have hS_ : W4S w0 (wX.alloc (.cells #[.int .i64 r, .int .i64 x, .int .i64 r, .int .i64 r] 3)) g4 g5 g10 b J M a n c ma mn mc m1 m2 r ∧ Bk (wX.alloc (.cells #[.int .i64 r, .int .i64 x, .int .i64 r, .int .i64 r] 3)) g11 30 (jobC O (.slice va on vc)) := ⟨hS.1.next ((Below.refl _ _).alloc (Nat.le_refl _) _), hS.2.alloc _⟩
        have hG_ : Rg (wX.alloc (.cells #[.int .i64 r, .int .i64 x, .int .i64 r, .int .i64 r] 3)) (wX.alloc (.cells #[.int .i64 r, .int .i64 x, .int .i64 r, .int .i64 r] 3)).heap.size va O.sh := hG.up ((Below.refl _ _).alloc (Nat.le_refl _) _)
        have hA_ : Bk (wX.alloc (.cells #[.int .i64 r, .int .i64 x, .int .i64 r, .int .i64 r] 3)) wd.heap.size 30 (([⟨J, a, n, c⟩, ⟨M, ma, mn, mc⟩, ⟨O, va, on, vc⟩, ⟨M, ma, mn, mc⟩] : List Ent).flatMap fun e => e.V.toList).toArray := hA.alloc _
        go_simp
        show K _ (wX.alloc (.cells #[.int .i64 r, .int .i64 x, .int .i64 r, .int .i64 r] 3))
        refine hK.out _ _ hS_ (fun _ => ?_)
        clear hS hG hA
        generalize hW_ : (wX.alloc (.cells #[.int .i64 r, .int .i64 x, .int .i64 r, .int .i64 r] 3)) = wI at hI hS_ hG_ hA_ ⊢
        clear hW_
        have hS := hS_
        have hG := hG_
        clear hS_ hG_
        have hA := hA_
        clear hA_
        clear hK K
        (try simp only [Act.put, List.setIfInBounds_toArray, List.set_cons_zero, List.set_cons_succ])
        refine wpAnyH_ready (rs := [27]) (by kernel_rfl) (by simp) ?_
        refine AllReadyH.cons (o := ⟨some 12, .assign (.tmp 49), 37, "law.go:29", #[⟨4, .data⟩, ⟨23, .chain⟩, ⟨0, .phase⟩, ⟨1, .phase⟩, ⟨2, .phase⟩, ⟨3, .phase⟩, ⟨4, .phase⟩, ⟨5, .textOnly .lateStores⟩, ⟨6, .textOnly .lateStores⟩, ⟨7, .textOnly .lateStores⟩, ⟨8, .textOnly .lateStores⟩, ⟨9, .textOnly .lateStores⟩, ⟨10, .textOnly .lateStores⟩, ⟨11, .textOnly .lateStores⟩, ⟨12, .textOnly .lateStores⟩, ⟨13, .textOnly .lateStores⟩, ⟨14, .textOnly .lateStores⟩, ⟨15, .textOnly .lateStores⟩, ⟨16, .textOnly .lateStores⟩, ⟨17, .textOnly .lateStores⟩, ⟨18, .textOnly .lateStores⟩, ⟨19, .textOnly .lateStores⟩, ⟨20, .textOnly .lateStores⟩, ⟨21, .textOnly .lateStores⟩, ⟨22, .textOnly .lateStores⟩, ⟨23, .textOnly .lateStoresUnsure⟩, ⟨24, .textOnly .lateStores⟩, ⟨25, .textOnly .lateStores⟩, ⟨26, .textOnly .lateStores⟩], none⟩) rfl (fun K hK => ?_) ?_
        · go_simp
          refine hK.out _ _ hS (fun _ => ?_)
          clear hK K
          (try simp only [Act.put, List.setIfInBounds_toArray, List.set_cons_zero, List.set_cons_succ])
          refine wpAnyH_ready (rs := [28]) (by kernel_rfl) (by simp) ?_
          refine AllReadyH.cons (o := ⟨some 13, .assign (.tmp 71), 31, "law.go:29", #[⟨26, .data⟩, ⟨27, .chain⟩, ⟨0, .phase⟩, ⟨1, .phase⟩, ⟨2, .phase⟩, ⟨3, .phase⟩, ⟨4, .phase⟩, ⟨5, .phase⟩, ⟨6, .phase⟩, ⟨7, .phase⟩, ⟨8, .phase⟩, ⟨9, .phase⟩, ⟨10, .phase⟩, ⟨11, .phase⟩, ⟨12, .phase⟩, ⟨13, .phase⟩, ⟨14, .phase⟩, ⟨15, .phase⟩, ⟨16, .phase⟩, ⟨17, .phase⟩, ⟨18, .phase⟩, ⟨19, .phase⟩, ⟨20, .phase⟩, ⟨21, .phase⟩, ⟨22, .phase⟩, ⟨23, .phase⟩, ⟨24, .phase⟩, ⟨25, .phase⟩, ⟨26, .phase⟩, ⟨27, .phase⟩], none⟩) rfl (fun K hK => ?_) ?_
          · go_simp
            refine hK.out _ _ hS (fun _ => ?_)
            clear hK K
            (try simp only [Act.put, List.setIfInBounds_toArray, List.set_cons_zero, List.set_cons_succ])
            refine wpAnyH_done (by kernel_rfl) ?_ _
            exact ⟨rfl, _, _, _, _, _, _, _, _, _, _, _, _, _, _, _, _, _, _, _, _, _, _, _, _, _, _, _, wd.heap.size, wX.heap.size, x, rfl, hx, hS.1, hA, hI, hG⟩
          exact AllReadyH.nil
        exact AllReadyH.nil
      refine AllReadyH.cons (o := ⟨some 12, .assign (.tmp 49), 37, "law.go:29", #[⟨4, .data⟩, ⟨23, .chain⟩, ⟨0, .phase⟩, ⟨1, .phase⟩, ⟨2, .phase⟩, ⟨3, .phase⟩, ⟨4, .phase⟩, ⟨5, .textOnly .lateStores⟩, ⟨6, .textOnly .lateStores⟩, ⟨7, .textOnly .lateStores⟩, ⟨8, .textOnly .lateStores⟩, ⟨9, .textOnly .lateStores⟩, ⟨10, .textOnly .lateStores⟩, ⟨11, .textOnly .lateStores⟩, ⟨12, .textOnly .lateStores⟩, ⟨13, .textOnly .lateStores⟩, ⟨14, .textOnly .lateStores⟩, ⟨15, .textOnly .lateStores⟩, ⟨16, .textOnly .lateStores⟩, ⟨17, .textOnly .lateStores⟩, ⟨18, .textOnly .lateStores⟩, ⟨19, .textOnly .lateStores⟩, ⟨20, .textOnly .lateStores⟩, ⟨21, .textOnly .lateStores⟩, ⟨22, .textOnly .lateStores⟩, ⟨23, .textOnly .lateStoresUnsure⟩, ⟨24, .textOnly .lateStores⟩, ⟨25, .textOnly .lateStores⟩, ⟨26, .textOnly .lateStores⟩], none⟩) rfl (fun K hK => ?_) ?_
      · go_simp
        refine hK.out _ _ hS (fun _ => ?_)
        clear hK K
        (try simp only [Act.put, List.setIfInBounds_toArray, List.set_cons_zero, List.set_cons_succ])
        refine wpAnyH_ready (rs := [26]) (by kernel_rfl) (by simp) ?_
        refine AllReadyH.cons (o := ⟨some 71, .buildSlice 31 4 #[(0, .tmp 50), (1, .tmp 68), (2, .tmp 69), (3, .tmp 70)], 31, "law.go:29", #[⟨5, .data⟩, ⟨23, .data⟩, ⟨24, .data⟩, ⟨25, .data⟩, ⟨27, .gcOnly .lateStores⟩], none⟩) rfl (fun K hK => ?_) ?_
        · have hI : Bk (wX.alloc (.cells #[.int .i64 r, .int .i64 x, .int .i64 r, .int .i64 r] 3)) wX.heap.size 3 #[.int .i64 r, .int .i64 x, .int .i64 r, .int .i64 r] := Bk.new _ _ _
          have hS_ : W4S w0 (wX.alloc (.cells #[.int .i64 r, .int .i64 x, .int .i64 r, .int .i64 r] 3)) g4 g5 g10 b J M a n c ma mn mc m1 m2 r ∧ Bk (wX.alloc (.cells #[.int .i64 r, .int .i64 x, .int .i64 r, .int .i64 r] 3)) g11 30 (jobC O (.slice va on vc)) := ⟨hS.1.next ((Below.refl _ _).alloc (Nat.le_refl _) _), hS.2.alloc _⟩
          have hG_ : Rg (wX.alloc (.cells #[.int .i64 r, .int .i64 x, .int .i64 r, .int .i64 r] 3)) (wX.alloc (.cells #[.int .i64 r, .int .i64 x, .int .i64 r, .int .i64 r] 3)).heap.size va O.sh := hG.up ((Below.refl _ _).alloc (Nat.le_refl _) _)
          have hA_ : Bk (wX.alloc (.cells #[.int .i64 r, .int .i64 x, .int .i64 r, .int .i64 r] 3)) wd.heap.size 30 (([⟨J, a, n, c⟩, ⟨M, ma, mn, mc⟩, ⟨O, va, on, vc⟩, ⟨M, ma, mn, mc⟩] : List Ent).flatMap fun e => e.V.toList).toArray := hA.alloc _
          go_simp
          show K _ (wX.alloc (.cells #[.int .i64 r, .int .i64 x, .int .i64 r, .int .i64 r] 3))
          refine hK.out _ _ hS_ (fun _ => ?_)
          clear hS hG hA
          generalize hW_ : (wX.alloc (.cells #[.int .i64 r, .int .i64 x, .int .i64 r, .int .i64 r] 3)) = wI at hI hS_ hG_ hA_ ⊢
          clear hW_
          have hS := hS_
          have hG := hG_
          clear hS_ hG_
          have hA := hA_
          clear hA_
          clear hK K
          (try simp only [Act.put, List.setIfInBounds_toArray, List.set_cons_zero, List.set_cons_succ])
          refine wpAnyH_ready (rs := [28]) (by kernel_rfl) (by simp) ?_
          refine AllReadyH.cons (o := ⟨some 13, .assign (.tmp 71), 31, "law.go:29", #[⟨26, .data⟩, ⟨27, .chain⟩, ⟨0, .phase⟩, ⟨1, .phase⟩, ⟨2, .phase⟩, ⟨3, .phase⟩, ⟨4, .phase⟩, ⟨5, .phase⟩, ⟨6, .phase⟩, ⟨7, .phase⟩, ⟨8, .phase⟩, ⟨9, .phase⟩, ⟨10, .phase⟩, ⟨11, .phase⟩, ⟨12, .phase⟩, ⟨13, .phase⟩, ⟨14, .phase⟩, ⟨15, .phase⟩, ⟨16, .phase⟩, ⟨17, .phase⟩, ⟨18, .phase⟩, ⟨19, .phase⟩, ⟨20, .phase⟩, ⟨21, .phase⟩, ⟨22, .phase⟩, ⟨23, .phase⟩, ⟨24, .phase⟩, ⟨25, .phase⟩, ⟨26, .phase⟩, ⟨27, .phase⟩], none⟩) rfl (fun K hK => ?_) ?_
          · go_simp
            refine hK.out _ _ hS (fun _ => ?_)
            clear hK K
            (try simp only [Act.put, List.setIfInBounds_toArray, List.set_cons_zero, List.set_cons_succ])
            refine wpAnyH_done (by kernel_rfl) ?_ _
            exact ⟨rfl, _, _, _, _, _, _, _, _, _, _, _, _, _, _, _, _, _, _, _, _, _, _, _, _, _, _, _, wd.heap.size, wX.heap.size, x, rfl, hx, hS.1, hA, hI, hG⟩
          exact AllReadyH.nil
        exact AllReadyH.nil
      exact AllReadyH.nil
    exact AllReadyH.nil
  refine AllReadyH.cons (o := ⟨some 68, .call { callee := .value (.func 9), args := #[.tmp 51, .tmp 59, .tmp 67], argTypes := #[33, 3, 3] }, 3, "law.go:29", #[⟨6, .data⟩, ⟨14, .data⟩, ⟨22, .data⟩], none⟩) rfl (fun K hK => ?_) ?_
  · go_simp
    go_at_call 9
    refine (withinP b (M.p1 - M.me - 1) (M.p2 + M.me + 1) _ hS.1.pt (by omega)).mono ?_
    rintro e wX ⟨x, rfl, hx, hk4, hp4⟩
    have hS_ : W4S w0 wX g4 g5 g10 b J M a n c ma mn mc m1 m2 r ∧ Bk wX g11 30 (jobC O (.slice va on vc)) := ⟨hS.1.pot hk4 hp4, hS.2.pb hk4 hS.2.lt (hS.1.pt.ne hS.2 (by simp [jobC]))⟩
    have hG_ : Rg wX wX.heap.size va O.sh := hG.pb hS.1.pt hk4
    clear hS hG  hk4 hp4
    have hS := hS_
    have hG := hG_
    clear hS_ hG_
    go_wp2_with fail
    refine hK.out _ _ hS (fun _ => ?_)
    clear hK K
    (try simp only [Act.put, List.setIfInBounds_toArray, List.set_cons_zero, List.set_cons_succ])
    refine wpAnyH_ready (rs := [4, 26]) (by kernel_rfl) (by simp) ?_
    refine AllReadyH.cons (o := ⟨some 49, .buildSlice 37 4 #[(0, .tmp 45), (1, .tmp 46), (2, .tmp 47), (3, .tmp 48)], 37, "law.go:29", #[⟨0, .data⟩, ⟨1, .data⟩, ⟨2, .data⟩, ⟨3, .data⟩], none⟩) rfl (fun K hK => ?_) ?_
    · have hA : Bk (wX.alloc (.cells (([⟨J, a, n, c⟩, ⟨M, ma, mn, mc⟩, ⟨O, va, on, vc⟩, ⟨M, ma, mn, mc⟩] : List Ent).flatMap fun e => e.V.toList).toArray 30)) wX.heap.size 30 (([⟨J, a, n, c⟩, ⟨M, ma, mn, mc⟩, ⟨O, va, on, vc⟩, ⟨M, ma, mn, mc⟩] : List Ent).flatMap fun e => e.V.toList).toArray := Bk.new _ _ _
      have hS_ : W4S w0 (wX.alloc (.cells (([⟨J, a, n, c⟩, ⟨M, ma, mn, mc⟩, ⟨O, va, on, vc⟩, ⟨M, ma, mn, mc⟩] : List Ent).flatMap fun e => e.V.toList).toArray 30)) g4 g5 g10 b J M a n c ma mn mc m1 m2 r ∧ Bk (wX.alloc (.cells (([⟨J, a, n, c⟩, ⟨M, ma, mn, mc⟩, ⟨O, va, on, vc⟩, ⟨M, ma, mn, mc⟩] : List Ent).flatMap fun e => e.V.toList).toArray 30)) g11 30 (jobC O (.slice va on vc)) := ⟨hS.1.next ((Below.refl _ _).alloc (Nat.le_refl _) _), hS.2.alloc _⟩
      have hG_ : Rg (wX.alloc (.cells (([⟨J, a, n, c⟩, ⟨M, ma, mn, mc⟩, ⟨O, va, on, vc⟩, ⟨M, ma, mn, mc⟩] : List Ent).flatMap fun e => e.V.toList).toArray 30)) (wX.alloc (.cells (([⟨J, a, n, c⟩, ⟨M, ma, mn, mc⟩, ⟨O, va, on, vc⟩, ⟨M, ma, mn, mc⟩] : List Ent).flatMap fun e => e.V.toList).toArray 30)).heap.size va O.sh := hG.up ((Below.refl _ _).alloc (Nat.le_refl _) _)
      go_simp
      show K _ (wX.alloc (.cells (([⟨J, a, n, c⟩, ⟨M, ma, mn, mc⟩, ⟨O, va, on, vc⟩, ⟨M, ma, mn, mc⟩] : List Ent).flatMap fun e => e.V.toList).toArray 30))
      refine hK.out _ _ hS_ (fun _ => ?_)
      clear hS hG 
      generalize hW_ : (wX.alloc (.cells (([⟨J, a, n, c⟩, ⟨M, ma, mn, mc⟩, ⟨O, va, on, vc⟩, ⟨M, ma, mn, mc⟩] : List Ent).flatMap fun e => e.V.toList).toArray 30)) = wA at hA hS_ hG_  ⊢
      clear hW_
      have hS := hS_
      have hG := hG_
      clear hS_ hG_
      clear hK K
      (try simp only [Act.put, List.setIfInBounds_toArray, List.set_cons_zero, List.set_cons_succ])
      refine wpAnyH_ready (rs := [26, 27]) (by kernel_rfl) (by simp) ?_
      refine AllReadyH.cons (o := ⟨some 71, .buildSlice 31 4 #[(0, .tmp 50), (1, .tmp 68), (2, .tmp 69), (3, .tmp 70)], 31, "law.go:29", #[⟨5, .data⟩, ⟨23, .data⟩, ⟨24, .data⟩, ⟨25, .data⟩, ⟨27, .gcOnly .lateStores⟩], none⟩) rfl (fun K hK => ?_) ?_
      · have hI : Bk (wA.alloc (.cells #[.int .i64 r, .int .i64 x, .int .i64 r, .int .i64 r] 3)) wA.heap.size 3 #[.int .i64 r, .int .i64 x, .int .i64 r, .int .i64 r] := Bk.new _ _ _
        have hS_ : W4S w0 (wA.alloc (.cells #[.int .i64 r, .int .i64 x, .int .i64 r, .int .i64 r] 3)) g4 g5 g10 b J M a n c ma mn mc m1 m2 r ∧ Bk (wA.alloc (.cells #[.int .i64 r, .int .i64 x, .int .i64 r, .int .i64 r] 3)) g11 30 (jobC O (.slice va on vc)) := ⟨hS.1.next ((Below.refl _ _).alloc (Nat.le_refl _) _), hS.2.alloc _⟩
        have hG_ : Rg (wA.alloc (.cells #[.int .i64 r, .int .i64 x, .int .i64 r, .int .i64 r] 3)) (wA.alloc (.cells #[.int .i64 r, .int .i64 x, .int .i64 r, .int .i64 r] 3)).heap.size va O.sh := hG.up ((Below.refl _ _).alloc (Nat.le_refl _) _)
        have hA_ : Bk (wA.alloc (.cells #[.int .i64 r, .int .i64 x, .int .i64 r, .int .i64 r] 3)) wX.heap.size 30 (([⟨J, a, n, c⟩, ⟨M, ma, mn, mc⟩, ⟨O, va, on, vc⟩, ⟨M, ma, mn, mc⟩] : List Ent).flatMap fun e => e.V.toList).toArray := hA.alloc _
        go_simp
        show K _ (wA.alloc (.cells #[.int .i64 r, .int .i64 x, .int .i64 r, .int .i64 r] 3))
        refine hK.out _ _ hS_ (fun _ => ?_)
        clear hS hG hA
        generalize hW_ : (wA.alloc (.cells #[.int .i64 r, .int .i64 x, .int .i64 r, .int .i64 r] 3)) = wI at hI hS_ hG_ hA_ ⊢
        clear hW_
        have hS := hS_
        have hG := hG_
        clear hS_ hG_
        have hA := hA_
        clear hA_
        clear hK K
        (try simp only [Act.put, List.setIfInBounds_toArray, List.set_cons_zero, List.set_cons_succ])
        refine wpAnyH_ready (rs := [27]) (by kernel_rfl) (by simp) ?_
        refine AllReadyH.cons (o := ⟨some 12, .assign (.tmp 49), 37, "law.go:29", #[⟨4, .data⟩, ⟨23, .chain⟩, ⟨0, .phase⟩, ⟨1, .phase⟩, ⟨2, .phase⟩, ⟨3, .phase⟩, ⟨4, .phase⟩, ⟨5, .textOnly .lateStores⟩, ⟨6, .textOnly .lateStores⟩, ⟨7, .textOnly .lateStores⟩, ⟨8, .textOnly .lateStores⟩, ⟨9, .textOnly .lateStores⟩, ⟨10, .textOnly .lateStores⟩, ⟨11, .textOnly .lateStores⟩, ⟨12, .textOnly .lateStores⟩, ⟨13, .textOnly .lateStores⟩, ⟨14, .textOnly .lateStores⟩, ⟨15, .textOnly .lateStores⟩, ⟨16, .textOnly .lateStores⟩, ⟨17, .textOnly .lateStores⟩, ⟨18, .textOnly .lateStores⟩, ⟨19, .textOnly .lateStores⟩, ⟨20, .textOnly .lateStores⟩, ⟨21, .textOnly .lateStores⟩, ⟨22, .textOnly .lateStores⟩, ⟨23, .textOnly .lateStoresUnsure⟩, ⟨24, .textOnly .lateStores⟩, ⟨25, .textOnly .lateStores⟩, ⟨26, .textOnly .lateStores⟩], none⟩) rfl (fun K hK => ?_) ?_
        · go_simp
          refine hK.out _ _ hS (fun _ => ?_)
          clear hK K
          (try simp only [Act.put, List.setIfInBounds_toArray, List.set_cons_zero, List.set_cons_succ])
          refine wpAnyH_ready (rs := [28]) (by kernel_rfl) (by simp) ?_
          refine AllReadyH.cons (o := ⟨some 13, .assign (.tmp 71), 31, "law.go:29", #[⟨26, .data⟩, ⟨27, .chain⟩, ⟨0, .phase⟩, ⟨1, .phase⟩, ⟨2, .phase⟩, ⟨3, .phase⟩, ⟨4, .phase⟩, ⟨5, .phase⟩, ⟨6, .phase⟩, ⟨7, .phase⟩, ⟨8, .phase⟩, ⟨9, .phase⟩, ⟨10, .phase⟩, ⟨11, .phase⟩, ⟨12, .phase⟩, ⟨13, .phase⟩, ⟨14, .phase⟩, ⟨15, .phase⟩, ⟨16, .phase⟩, ⟨17, .phase⟩, ⟨18, .phase⟩, ⟨19, .phase⟩, ⟨20, .phase⟩, ⟨21, .phase⟩, ⟨22, .phase⟩, ⟨23, .phase⟩, ⟨24, .phase⟩, ⟨25, .phase⟩, ⟨26, .phase⟩, ⟨27, .phase⟩], none⟩) rfl (fun K hK => ?_) ?_
          · go_simp
            refine hK.out _ _ hS (fun _ => ?_)
            clear hK K
            (try simp only [Act.put, List.setIfInBounds_toArray, List.set_cons_zero, List.set_cons_succ])
            refine wpAnyH_done (by kernel_rfl) ?_ _
            exact ⟨rfl, _, _, _, _, _, _, _, _, _, _, _, _, _, _, _, _, _, _, _, _, _, _, _, _, _, _, _, wX.heap.size, wA.heap.size, x, rfl, hx, hS.1, hA, hI, hG⟩
          exact AllReadyH.nil
        exact AllReadyH.nil
      refine AllReadyH.cons (o := ⟨some 12, .assign (.tmp 49), 37, "law.go:29", #[⟨4, .data⟩, ⟨23, .chain⟩, ⟨0, .phase⟩, ⟨1, .phase⟩, ⟨2, .phase⟩, ⟨3, .phase⟩, ⟨4, .phase⟩, ⟨5, .textOnly .lateStores⟩, ⟨6, .textOnly .lateStores⟩, ⟨7, .textOnly .lateStores⟩, ⟨8, .textOnly .lateStores⟩, ⟨9, .textOnly .lateStores⟩, ⟨10, .textOnly .lateStores⟩, ⟨11, .textOnly .lateStores⟩, ⟨12, .textOnly .lateStores⟩, ⟨13, .textOnly .lateStores⟩, ⟨14, .textOnly .lateStores⟩, ⟨15, .textOnly .lateStores⟩, ⟨16, .textOnly .lateStores⟩, ⟨17, .textOnly .lateStores⟩, ⟨18, .textOnly .lateStores⟩, ⟨19, .textOnly .lateStores⟩, ⟨20, .textOnly .lateStores⟩, ⟨21, .textOnly .lateStores⟩, ⟨22, .textOnly .lateStores⟩, ⟨23, .textOnly .lateStoresUnsure⟩, ⟨24, .textOnly .lateStores⟩, ⟨25, .textOnly .lateStores⟩, ⟨26, .textOnly .lateStores⟩], none⟩) rfl (fun K hK => ?_) ?_
      · go_simp
        refine hK.out _ _ hS (fun _ => ?_)
        clear hK K
        (try simp only [Act.put, List.setIfInBounds_toArray, List.set_cons_zero, List.set_cons_succ])
        refine wpAnyH_ready (rs := [26]) (by kernel_rfl) (by simp) ?_
        refine AllReadyH.cons (o := ⟨some 71, .buildSlice 31 4 #[(0, .tmp 50), (1, .tmp 68), (2, .tmp 69), (3, .tmp 70)], 31, "law.go:29", #[⟨5, .data⟩, ⟨23, .data⟩, ⟨24, .data⟩, ⟨25, .data⟩, ⟨27, .gcOnly .lateStores⟩], none⟩) rfl (fun K hK => ?_) ?_
        · have hI : Bk (wA.alloc (.cells #[.int .i64 r, .int .i64 x, .int .i64 r, .int .i64 r] 3)) wA.heap.size 3 #[.int .i64 r, .int .i64 x, .int .i64 r, .int .i64 r] := Bk.new _ _ _
          have hS_ : W4S w0 (wA.alloc (.cells #[.int .i64 r, .int .i64 x, .int .i64 r, .int .i64 r] 3)) g4 g5 g10 b J M a n c ma mn mc m1 m2 r ∧ Bk (wA.alloc (.cells #[.int .i64 r, .int .i64 x, .int .i64 r, .int .i64 r] 3)) g11 30 (jobC O (.slice va on vc)) := ⟨hS.1.next ((Below.refl _ _).alloc (Nat.le_refl _) _), hS.2.alloc _⟩
          have hG_ : Rg (wA.alloc (.cells #[.int .i64 r, .int .i64 x, .int .i64 r, .int .i64 r] 3)) (wA.alloc (.cells #[.int .i64 r, .int .i64 x, .int .i64 r, .int .i64 r] 3)).heap.size va O.sh := hG.up ((Below.refl _ _).alloc (Nat.le_refl _) _)
          have hA_ : Bk (wA.alloc (.cells #[.int .i64 r, .int .i64 x, .int .i64 r, .int .i64 r] 3)) wX.heap.size 30 (([⟨J, a, n, c⟩, ⟨M, ma, mn, mc⟩, ⟨O, va, on, vc⟩, ⟨M, ma, mn, mc⟩] : List Ent).flatMap fun e => e.V.toList).toArray := hA.alloc _
          go_simp
          show K _ (wA.alloc (.cells #[.int .i64 r, .int .i64 x, .int .i64 r, .int .i64 r] 3))
          refine hK.out _ _ hS_ (fun _ => ?_)
          clear hS hG hA
          generalize hW_ : (wA.alloc (.cells #[.int .i64 r, .int .i64 x, .int .i64 r, .int .i64 r] 3)) = wI at hI hS_ hG_ hA_ ⊢
          clear hW_
          have hS := hS_
          have hG := hG_
          clear hS_ hG_
          have hA := hA_
          clear hA_
          clear hK K
          (try simp only [Act.put, List.setIfInBounds_toArray, List.set_cons_zero, List.set_cons_succ])
          refine wpAnyH_ready (rs := [28]) (by kernel_rfl) (by simp) ?_
          refine AllReadyH.cons (o := ⟨some 13, .assign (.tmp 71), 31, "law.go:29", #[⟨26, .data⟩, ⟨27, .chain⟩, ⟨0, .phase⟩, ⟨1, .phase⟩, ⟨2, .phase⟩, ⟨3, .phase⟩, ⟨4, .phase⟩, ⟨5, .phase⟩, ⟨6, .phase⟩, ⟨7, .phase⟩, ⟨8, .phase⟩, ⟨9, .phase⟩, ⟨10, .phase⟩, ⟨11, .phase⟩, ⟨12, .phase⟩, ⟨13, .phase⟩, ⟨14, .phase⟩, ⟨15, .phase⟩, ⟨16, .phase⟩, ⟨17, .phase⟩, ⟨18, .phase⟩, ⟨19, .phase⟩, ⟨20, .phase⟩, ⟨21, .phase⟩, ⟨22, .phase⟩, ⟨23, .phase⟩, ⟨24, .phase⟩, ⟨25, .phase⟩, ⟨26, .phase⟩, ⟨27, .phase⟩], none⟩) rfl (fun K hK => ?_) ?_
          · go_simp
            refine hK.out _ _ hS (fun _ => ?_)
            clear hK K
            (try simp only [Act.put, List.setIfInBounds_toArray, List.set_cons_zero, List.set_cons_succ])
            refine wpAnyH_done (by kernel_rfl) ?_ _
            exact ⟨rfl, _, _, _, _, _, _, _, _, _, _, _, _, _, _, _, _, _, _, _, _, _, _, _, _, _, _, _, wX.heap.size, wA.heap.size, x, rfl, hx, hS.1, hA, hI, hG⟩
          exact AllReadyH.nil
        exact AllReadyH.nil
      exact AllReadyH.nil
    refine AllReadyH.cons (o := ⟨some 71, .buildSlice 31 4 #[(0, .tmp 50), (1, .tmp 68), (2, .tmp 69), (3, .tmp 70)], 31, "law.go:29", #[⟨5, .data⟩, ⟨23, .data⟩, ⟨24, .data⟩, ⟨25, .data⟩, ⟨27, .gcOnly .lateStores⟩], none⟩) rfl (fun K hK => ?_) ?_
    · have hI : Bk (wX.alloc (.cells #[.int .i64 r, .int .i64 x, .int .i64 r, .int .i64 r] 3)) wX.heap.size 3 #[.int .i64 r, .int .i64 x, .int .i64 r, .int .i64 r] := Bk.new _ _ _
      have hS_ : W4S w0 (wX.alloc (.cells #[.int .i64 r, .int .i64 x, .int .i64 r, .int .i64 r] 3)) g4 g5 g10 b J M a n c ma mn mc m1 m2 r ∧ Bk (wX.alloc (.cells #[.int .i64 r, .int .i64 x, .int .i64 r, .int .i64 r] 3)) g11 30 (jobC O (.slice va on vc)) := ⟨hS.1.next ((Below.refl _ _).alloc (Nat.le_refl _) _), hS.2.alloc _⟩
      have hG_ : Rg (wX.alloc (.cells #[.int .i64 r, .int .i64 x, .int .i64 r, .int .i64 r] 3)) (wX.alloc (.cells #[.int .i64 r, .int .i64 x, .int .i64 r, .int .i64 r] 3)).heap.size va O.sh := hG.up ((Below.refl _ _).alloc (Nat.le_refl _) _)
      go_simp
      show K _ (wX.alloc (.cells #[.int .i64 r, .int .i64 x, .int .i64 r, .int .i64 r] 3))
      refine hK.out _ _ hS_ (fun _ => ?_)
      clear hS hG 
      generalize hW_ : (wX.alloc (.cells #[.int .i64 r, .int .i64 x, .int .i64 r, .int .i64 r] 3)) = wI at hI hS_ hG_  ⊢
      clear hW_
      have hS := hS_
      have hG := hG_
      clear hS_ hG_
      clear hK K
      (try simp only [Act.put, List.setIfInBounds_toArray, List.set_cons_zero, List.set_cons_succ])
      refine wpAnyH_ready (rs := [4]) (by kernel_rfl) (by simp) ?_
      refine AllReadyH.cons (o := ⟨some 49, .buildSlice 37 4 #[(0, .tmp 45), (1, .tmp 46), (2, .tmp 47), (3, .tmp 48)], 37, "law.go:29", #[⟨0, .data⟩, ⟨1, .data⟩, ⟨2, .data⟩, ⟨3, .data⟩], none⟩) rfl (fun K hK => ?_) ?_
      · have hA : Bk (wI.alloc (.cells (([⟨J, a, n, c⟩, ⟨M, ma, mn, mc⟩, ⟨O, va, on, vc⟩, ⟨M, ma, mn, mc⟩] : List Ent).flatMap fun e => e.V.toList).toArray 30)) wI.heap.size 30 (([⟨J, a, n, c⟩, ⟨M, ma, mn, mc⟩, ⟨O, va, on, vc⟩, ⟨M, ma, mn, mc⟩] : List Ent).flatMap fun e => e.V.toList).toArray := Bk.new _ _ _
        have hS_ : W4S w0 (wI.alloc (.cells (([⟨J, a, n, c⟩, ⟨M, ma, mn, mc⟩, ⟨O, va, on, vc⟩, ⟨M, ma, mn, mc⟩] : List Ent).flatMap fun e => e.V.toList).toArray 30)) g4 g5 g10 b J M a n c ma mn mc m1 m2 r ∧ Bk (wI.alloc (.cells (([⟨J, a, n, c⟩, ⟨M, ma, mn, mc⟩, ⟨O, va, on, vc⟩, ⟨M, ma, mn, mc⟩] : List Ent).flatMap fun e => e.V.toList).toArray 30)) g11 30 (jobC O (.slice va on vc)) := ⟨hS.1.next ((Below.refl _ _).alloc (Nat.le_refl _) _), hS.2.alloc _⟩
        have hG_ : Rg (wI.alloc (.cells (([⟨J, a, n, c⟩, ⟨M, ma, mn, mc⟩, ⟨O, va, on, vc⟩, ⟨M, ma, mn, mc⟩] : List Ent).flatMap fun e => e.V.toList).toArray 30)) (wI.alloc (.cells (([⟨J, a, n, c⟩, ⟨M, ma, mn, mc⟩, ⟨O, va, on, vc⟩, ⟨M, ma, mn, mc⟩] : List Ent).flatMap fun e => e.V.toList).toArray 30)).heap.size va O.sh := hG.up ((Below.refl _ _).alloc (Nat.le_refl _) _)
        have hI_ : Bk (wI.alloc (.cells (([⟨J, a, n, c⟩, ⟨M, ma, mn, mc⟩, ⟨O, va, on, vc⟩, ⟨M, ma, mn, mc⟩] : List Ent).flatMap fun e => e.V.toList).toArray 30)) wX.heap.size 3 #[.int .i64 r, .int .i64 x, .int .i64 r, .int .i64 r] := hI.alloc _
        go_simp
        show K _ (wI.alloc (.cells (([⟨J, a, n, c⟩, ⟨M, ma, mn, mc⟩, ⟨O, va, on, vc⟩, ⟨M, ma, mn, mc⟩] : List Ent).flatMap fun e => e.V.toList).toArray 30))
        refine hK.out _ _ hS_ (fun _ => ?_)
        clear hS hG hI
        generalize hW_ : (wI.alloc (.cells (([⟨J, a, n, c⟩, ⟨M, ma, mn, mc⟩, ⟨O, va, on, vc⟩, ⟨M, ma, mn, mc⟩] : List Ent).flatMap fun e => e.V.toList).toArray 30)) = wA at hA hS_ hG_ hI_ ⊢
        clear hW_
        have hS := hS_
        have hG := hG_
        clear hS_ hG_
        have hI := hI_
        clear hI_
        clear hK K
        (try simp only [Act.put, List.setIfInBounds_toArray, List.set_cons_zero, List.set_cons_succ])
        refine wpAnyH_ready (rs := [27]) (by kernel_rfl) (by simp) ?_
        refine AllReadyH.cons (o := ⟨some 12, .assign (.tmp 49), 37, "law.go:29", #[⟨4, .data⟩, ⟨23, .chain⟩, ⟨0, .phase⟩, ⟨1, .phase⟩, ⟨2, .phase⟩, ⟨3, .phase⟩, ⟨4, .phase⟩, ⟨5, .textOnly .lateStores⟩, ⟨6, .textOnly .lateStores⟩, ⟨7, .textOnly .lateStores⟩, ⟨8, .textOnly .lateStores⟩, ⟨9, .textOnly .lateStores⟩, ⟨10, .textOnly .lateStores⟩, ⟨11, .textOnly .lateStores⟩, ⟨12, .textOnly .lateStores⟩, ⟨13, .textOnly .lateStores⟩, ⟨14, .textOnly .lateStores⟩, ⟨15, .textOnly .lateStores⟩, ⟨16, .textOnly .lateStores⟩, ⟨17, .textOnly .lateStores⟩, ⟨18, .textOnly .lateStores⟩, ⟨19, .textOnly .lateStores⟩, ⟨20, .textOnly .lateStores⟩, ⟨21, .textOnly .lateStores⟩, ⟨22, .textOnly .lateStores⟩, ⟨23, .textOnly .lateStoresUnsure⟩, ⟨24, .textOnly .lateStores⟩, ⟨25, .textOnly .lateStores⟩, ⟨26, .textOnly .lateStores⟩], none⟩) rfl (fun K hK => ?_) ?_
        · go_simp
          refine hK.out _ _ hS (fun _ => ?_)
          clear hK K
          (try simp only [Act.put, List.setIfInBounds_toArray, List.set_cons_zero, List.set_cons_succ])
          refine wpAnyH_ready (rs := [28]) (by kernel_rfl) (by simp) ?_
          refine AllReadyH.cons (o := ⟨some 13, .assign (.tmp 71), 31, "law.go:29", #[⟨26, .data⟩, ⟨27, .chain⟩, ⟨0, .phase⟩, ⟨1, .phase⟩, ⟨2, .phase⟩, ⟨3, .phase⟩, ⟨4, .phase⟩, ⟨5, .phase⟩, ⟨6, .phase⟩, ⟨7, .phase⟩, ⟨8, .phase⟩, ⟨9, .phase⟩, ⟨10, .phase⟩, ⟨11, .phase⟩, ⟨12, .phase⟩, ⟨13, .phase⟩, ⟨14, .phase⟩, ⟨15, .phase⟩, ⟨16, .phase⟩, ⟨17, .phase⟩, ⟨18, .phase⟩, ⟨19, .phase⟩, ⟨20, .phase⟩, ⟨21, .phase⟩, ⟨22, .phase⟩, ⟨23, .phase⟩, ⟨24, .phase⟩, ⟨25, .phase⟩, ⟨26, .phase⟩, ⟨27, .phase⟩], none⟩) rfl (fun K hK => ?_) ?_
          · go_simp
            refine hK.out _ _ hS (fun _ => ?_)
            clear hK K
            (try simp only [Act.put, List.setIfInBounds_toArray, List.set_cons_zero, List.set_cons_succ])
            refine wpAnyH_done (by kernel_rfl) ?_ _
            exact ⟨rfl, _, _, _, _, _, _, _, _, _, _, _, _, _, _, _, _, _, _, _, _, _, _, _, _, _, _, _, wI.heap.size, wX.heap.size, x, rfl, hx, hS.1, hA, hI, hG⟩
          exact AllReadyH.nil
        exact AllReadyH.nil
      exact AllReadyH.nil
    exact AllReadyH.nil
  exact AllReadyH.nil
end Go.Proofs.Ytbndjijlinpkmaa
