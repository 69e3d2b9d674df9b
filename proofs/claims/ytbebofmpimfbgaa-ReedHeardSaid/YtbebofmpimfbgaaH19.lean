/- Part 19 of the proof: HeB, HeD, HeC. -/
import Derived.Deep.WholeRow
import Derived.Test.YtbebofmpimfbgaaH18
/- The law ReedHeard: the numbers of its second job. -/
namespace Go.Proofs.Ytbebofmpimfbgaa
set_option linter.all false
open Go.RowKit
set_option maxHeartbeats 4000000 in
set_option maxRecDepth 1000000 in
theorem hepart5 {w0 w : World} {g4 g5 : Nat} {J : Jb} {a oa : Option Addr} {n c oc : Nat} {u0 u1 u2 u3 u6 u7 u8 u9 u10 u11 u12 u13 u14 u15 u16 u17 u18 u19 u20 u21 u22 u23 u24 u25 u26 u27 u28 u29 u30 u31 u32 u33 u34 u35 u36 u37 u38 u39 u40 u41 u42 u43 u44 u45 u46 u47 u48 u49 u50 u51 u52 u53 u54 u55 u56 u57 u58 u59 u60 u61 u62 u63 u64 u65 u66 u67 u68 u69 u70 u71 u72 u73 u74 u75 u76 u77 u78 u79 u80 u81 u82 u83 u84 u85 u86 u87 u88 u89 u90 u91 u92 u93 u94 u95 u96 u97 u98 u99 u100 u101 u102 u103 u104 u105 u106 u107 u108 u109 u110 u111 u112 u113 u114 u115 u116 u117 u118 u119 u120 u121 u122 u123 u124 u125 u126 u127 u128 u129 u130 u131 u132 : Value} (htun : TunOK) (hshort : ShortOK) (hb0 : Below w0.heap.size w0 w) (h4 : Bk w g4 30 (jobC J (.slice a n c))) (hrg : Rg w g5 a J.sh) (hn : n = J.sh.length) (hck : J.check = 0) (h5 : Bk w g5 30 (jobC { J with p2 := J.p1, u2 := J.u1, d2 := J.d1, x2 := J.x1, y2 := J.y1 } (.slice oa n oc))) (hro : Rg w g5 oa J.sh) (hg5 : w0.heap.size ≤ g5) (h45 : g4 ≠ g5) : Code.wp Try.prog herest5 (QHE w0) ⟨#[u0, u1, u2, u3, (.pointer (some ⟨g4, 0, none⟩)), (.pointer (some ⟨g5, 0, none⟩)), u6, u7, u8, u9, u10, u11, u12, u13, u14, u15, u16, u17, u18, u19, u20, u21, u22, u23, u24, u25, u26, u27, u28, u29, u30, u31, u32, u33, u34, u35, u36, u37, u38, u39, u40, u41, u42, u43, u44, u45, u46, u47, u48, u49, u50, u51, u52, u53, u54, u55, u56, u57, u58, u59, u60, u61, u62, u63, u64, u65, u66, u67, u68, u69, u70, u71, u72, u73, u74, u75, u76, u77, u78, u79, u80, u81, u82, u83, u84, u85, u86, u87, u88, u89, u90, u91, u92, u93, u94, u95, u96, u97, u98, u99, u100, u101, u102, u103, u104, u105, u106, u107, u108, u109, u110, u111, u112, u113, u114, u115, u116, u117, u118, u119, u120, u121, u122, u123, u124, u125, u126, u127, u128, u129, u130, u131, u132], []⟩ w := by
  rw [herest5_eq]
  have c14 := h5.at_ 14 (.int .i64 J.le) rfl
  have c2 := h5.at_ 2 (.int .i64 J.t1) rfl
  have c4 := h5.at_ 4 (.int .i64 J.r1) rfl
  have f14 := h5.free 14
  have HB0 := hidMk hb0
  have H4 := hidMk h4
  have HR := hidMk hrg
  have HN := hidMk hn
  have HC := hidMk hck
  have HT := hidMk htun
  have HS := hidMk hshort
  have H5 := hidMk h5
  have HO := hidMk hro
  have HG5 := hidMk hg5
  clear hg5 h5 hro hb0 h4 hrg hn hck htun hshort
  by_cases h1 : J.t1 < J.le
  · by_cases h2 : J.r1 < J.t1
    · have e : mn (mn J.le J.t1) J.r1 = J.r1 := by unfold mn; rw [if_pos h1, if_pos h2]
      have HE := hidMk e
      clear e
      go_wp2_with fail
      have q := (Below.refl w0.heap.size w).setCell (p := ⟨g5, 14, none⟩) HG5.out (.int .i64 J.r1)
      have b5 : Bk (w.setCell ⟨g5, 14, none⟩ (.int .i64 J.r1)) g5 30 (jobC (exOf J) (.slice oa n oc)) := by have b5 := H5.out.put 14 (.int .i64 J.r1); unfold exOf; rw [HE.out]; exact b5
      exact hepart6 HT.out HS.out (HB0.out.trans q) (H4.out.other (by exact h45) _) ((HR.out.setg 14 _).hi (Nat.le_of_lt b5.lt)) HN.out HC.out b5 ((HO.out.setg 14 _).hi (Nat.le_of_lt b5.lt))
    · have e : mn (mn J.le J.t1) J.r1 = J.t1 := by unfold mn; rw [if_pos h1, if_neg h2]
      have HE := hidMk e
      clear e
      go_wp2_with fail
      have q := (Below.refl w0.heap.size w).setCell (p := ⟨g5, 14, none⟩) HG5.out (.int .i64 J.t1)
      have b5 : Bk (w.setCell ⟨g5, 14, none⟩ (.int .i64 J.t1)) g5 30 (jobC (exOf J) (.slice oa n oc)) := by have b5 := H5.out.put 14 (.int .i64 J.t1); unfold exOf; rw [HE.out]; exact b5
      exact hepart6 HT.out HS.out (HB0.out.trans q) (H4.out.other (by exact h45) _) ((HR.out.setg 14 _).hi (Nat.le_of_lt b5.lt)) HN.out HC.out b5 ((HO.out.setg 14 _).hi (Nat.le_of_lt b5.lt))
  · by_cases h2 : J.r1 < J.le
    · have e : mn (mn J.le J.t1) J.r1 = J.r1 := by unfold mn; rw [if_neg h1, if_pos h2]
      have HE := hidMk e
      clear e
      go_wp2_with fail
      have q := (Below.refl w0.heap.size w).setCell (p := ⟨g5, 14, none⟩) HG5.out (.int .i64 J.r1)
      have b5 : Bk (w.setCell ⟨g5, 14, none⟩ (.int .i64 J.r1)) g5 30 (jobC (exOf J) (.slice oa n oc)) := by have b5 := H5.out.put 14 (.int .i64 J.r1); unfold exOf; rw [HE.out]; exact b5
      exact hepart6 HT.out HS.out (HB0.out.trans q) (H4.out.other (by exact h45) _) ((HR.out.setg 14 _).hi (Nat.le_of_lt b5.lt)) HN.out HC.out b5 ((HO.out.setg 14 _).hi (Nat.le_of_lt b5.lt))
    · have e : mn (mn J.le J.t1) J.r1 = J.le := by unfold mn; rw [if_neg h1, if_neg h2]
      have HE := hidMk e
      clear e
      go_wp2_with fail
      have q := (Below.refl w0.heap.size w).setCell (p := ⟨g5, 14, none⟩) HG5.out (.int .i64 J.le)
      have b5 : Bk (w.setCell ⟨g5, 14, none⟩ (.int .i64 J.le)) g5 30 (jobC (exOf J) (.slice oa n oc)) := by have b5 := H5.out.put 14 (.int .i64 J.le); unfold exOf; rw [HE.out]; exact b5
      exact hepart6 HT.out HS.out (HB0.out.trans q) (H4.out.other (by exact h45) _) ((HR.out.setg 14 _).hi (Nat.le_of_lt b5.lt)) HN.out HC.out b5 ((HO.out.setg 14 _).hi (Nat.le_of_lt b5.lt))
end Go.Proofs.Ytbebofmpimfbgaa
/- The law ReedHeard: the numbers of its second job, first. -/
namespace Go.Proofs.Ytbebofmpimfbgaa
set_option linter.all false
open Go.RowKit
set_option maxHeartbeats 4000000 in
set_option maxRecDepth 1000000 in
theorem hepart4 {w0 w : World} {g4 g5 : Nat} {J : Jb} {a oa : Option Addr} {n c oc : Nat} {u0 u1 u2 u3 u6 u7 u8 u9 u10 u11 u12 u13 u14 u15 u16 u17 u18 u19 u20 u21 u22 u23 u24 u25 u26 u27 u28 u29 u30 u31 u32 u33 u34 u35 u36 u37 u38 u39 u40 u41 u42 u43 u44 u45 u46 u47 u48 u49 u50 u51 u52 u53 u54 u55 u56 u57 u58 u59 u60 u61 u62 u63 u64 u65 u66 u67 u68 u69 u70 u71 u72 u73 u74 u75 u76 u77 u78 u79 u80 u81 u82 u83 u84 u85 u86 u87 u88 u89 u90 u91 u92 u93 u94 u95 u96 u97 u98 u99 u100 u101 u102 u103 u104 u105 u106 u107 u108 u109 u110 u111 u112 u113 u114 u115 u116 u117 u118 u119 u120 u121 u122 u123 u124 u125 u126 u127 u128 u129 u130 u131 u132 : Value} (htun : TunOK) (hshort : ShortOK) (hb0 : Below w0.heap.size w0 w) (h4 : Bk w g4 30 (jobC J (.slice a n c))) (hrg : Rg w g5 a J.sh) (hn : n = J.sh.length) (hck : J.check = 0) (h5 : Bk w g5 30 (jobC J (.slice oa n oc))) (hro : Rg w g5 oa J.sh) (hg5 : w0.heap.size ≤ g5) (h45 : g4 ≠ g5) : Code.wp Try.prog herest4 (QHE w0) ⟨#[u0, u1, u2, u3, (.pointer (some ⟨g4, 0, none⟩)), (.pointer (some ⟨g5, 0, none⟩)), u6, u7, u8, u9, u10, u11, u12, u13, u14, u15, u16, u17, u18, u19, u20, u21, u22, u23, u24, u25, u26, u27, u28, u29, u30, u31, u32, u33, u34, u35, u36, u37, u38, u39, u40, u41, u42, u43, u44, u45, u46, u47, u48, u49, u50, u51, u52, u53, u54, u55, u56, u57, u58, u59, u60, u61, u62, u63, u64, u65, u66, u67, u68, u69, u70, u71, u72, u73, u74, u75, u76, u77, u78, u79, u80, u81, u82, u83, u84, u85, u86, u87, u88, u89, u90, u91, u92, u93, u94, u95, u96, u97, u98, u99, u100, u101, u102, u103, u104, u105, u106, u107, u108, u109, u110, u111, u112, u113, u114, u115, u116, u117, u118, u119, u120, u121, u122, u123, u124, u125, u126, u127, u128, u129, u130, u131, u132], []⟩ w := by
  rw [herest4_eq]
  have hl5 := h5.lt
  have c0 := h5.at_ 0 (.int .i64 J.p1) rfl
  have c6 := h5.at_ 6 (.int .i64 J.u1) rfl
  have c8 := h5.at_ 8 (.int .i64 J.d1) rfl
  have c10 := h5.at_ 10 (.int .i64 J.x1) rfl
  have c12 := h5.at_ 12 (.int .i64 J.y1) rfl
  have c1 := h5.at_ 1 (.int .i64 J.p2) rfl
  have c7 := h5.at_ 7 (.int .i64 J.u2) rfl
  have c9 := h5.at_ 9 (.int .i64 J.d2) rfl
  have c11 := h5.at_ 11 (.int .i64 J.x2) rfl
  have c13 := h5.at_ 13 (.int .i64 J.y2) rfl
  have f1 := h5.free 1
  have f7 := h5.free 7
  have f9 := h5.free 9
  have f11 := h5.free 11
  have f13 := h5.free 13
  have HB0 := hidMk hb0
  have H4 := hidMk h4
  have HR := hidMk hrg
  have HN := hidMk hn
  have HC := hidMk hck
  have HT := hidMk htun
  have HS := hidMk hshort
  have H5 := hidMk h5
  have HO := hidMk hro
  have HG5 := hidMk hg5
  clear hg5 h5 hro hb0 h4 hrg hn hck htun hshort
  go_wp2_with fail
  exact hepart5 HT.out HS.out (HB0.out.trans ((((((Below.refl w0.heap.size w).setCell (p := ⟨g5, 1, none⟩) HG5.out (.int .i64 J.p1)).setCell (p := ⟨g5, 7, none⟩) HG5.out (.int .i64 J.u1)).setCell (p := ⟨g5, 9, none⟩) HG5.out (.int .i64 J.d1)).setCell (p := ⟨g5, 11, none⟩) HG5.out (.int .i64 J.x1)).setCell (p := ⟨g5, 13, none⟩) HG5.out (.int .i64 J.y1))) (((((H4.out.other (p := ⟨g5, 1, none⟩) (by exact h45) (.int .i64 J.p1)).other (p := ⟨g5, 7, none⟩) (by exact h45) (.int .i64 J.u1)).other (p := ⟨g5, 9, none⟩) (by exact h45) (.int .i64 J.d1)).other (p := ⟨g5, 11, none⟩) (by exact h45) (.int .i64 J.x1)).other (p := ⟨g5, 13, none⟩) (by exact h45) (.int .i64 J.y1)) (((((HR.out.setg 1 (.int .i64 J.p1)).setg 7 (.int .i64 J.u1)).setg 9 (.int .i64 J.d1)).setg 11 (.int .i64 J.x1)).setg 13 (.int .i64 J.y1)) HN.out HC.out (((((H5.out.put 1 (.int .i64 J.p1)).put 7 (.int .i64 J.u1)).put 9 (.int .i64 J.d1)).put 11 (.int .i64 J.x1)).put 13 (.int .i64 J.y1)) (((((HO.out.setg 1 (.int .i64 J.p1)).setg 7 (.int .i64 J.u1)).setg 9 (.int .i64 J.d1)).setg 11 (.int .i64 J.x1)).setg 13 (.int .i64 J.y1)) HG5.out h45
end Go.Proofs.Ytbebofmpimfbgaa
/- The law ReedHeard. -/
namespace Go.Proofs.Ytbebofmpimfbgaa
set_option linter.all false
open Go.RowKit
set_option maxHeartbeats 4000000 in
set_option maxRecDepth 1000000 in
theorem hepart3 {w0 w : World} {g4 : Nat} {J : Jb} {a : Option Addr} {n c : Nat} {u0 u1 u2 u3 u5 u6 u7 u8 u9 u10 u11 u12 u13 u14 u15 u16 u17 u18 u19 u20 u21 u22 u23 u24 u25 u26 u27 u28 u29 u30 u31 u32 u33 u34 u35 u36 u37 u38 u39 u40 u41 u42 u43 u44 u45 u46 u47 u48 u49 u50 u51 u52 u53 u54 u55 u56 u57 u58 u59 u60 u61 u62 u63 u64 u65 u66 u67 u68 u69 u70 u71 u72 u73 u74 u75 u76 u77 u78 u79 u80 u81 u82 u83 u84 u85 u86 u87 u88 u89 u90 u91 u92 u93 u94 u95 u96 u97 u98 u99 u100 u101 u102 u103 u104 u105 u106 u107 u108 u109 u110 u111 u112 u113 u114 u115 u116 u117 u118 u119 u120 u121 u122 u123 u124 u125 u126 u127 u128 u129 u130 u131 u132 : Value} (htun : TunOK) (hshort : ShortOK) (hb0 : Below w0.heap.size w0 w) (h4 : Bk w g4 30 (jobC J (.slice a n c))) (hrg : Rg w w.heap.size a J.sh) (hn : n = J.sh.length) (hck : J.check = 0) : Code.wp Try.prog herest3 (QHE w0) ⟨#[u0, u1, u2, u3, (.pointer (some ⟨g4, 0, none⟩)), u5, u6, u7, u8, u9, u10, u11, u12, u13, u14, u15, u16, u17, u18, u19, u20, u21, u22, u23, u24, u25, u26, u27, u28, u29, u30, u31, u32, u33, u34, u35, u36, u37, u38, u39, u40, u41, u42, u43, u44, u45, u46, u47, u48, u49, u50, u51, u52, u53, u54, u55, u56, u57, u58, u59, u60, u61, u62, u63, u64, u65, u66, u67, u68, u69, u70, u71, u72, u73, u74, u75, u76, u77, u78, u79, u80, u81, u82, u83, u84, u85, u86, u87, u88, u89, u90, u91, u92, u93, u94, u95, u96, u97, u98, u99, u100, u101, u102, u103, u104, u105, u106, u107, u108, u109, u110, u111, u112, u113, u114, u115, u116, u117, u118, u119, u120, u121, u122, u123, u124, u125, u126, u127, u128, u129, u130, u131, u132], []⟩ w := by
  rw [herest3_eq]
  have HB0 := hidMk hb0
  have H4 := hidMk h4
  have HR := hidMk hrg
  have HN := hidMk hn
  have HC := hidMk hck
  have HT := hidMk htun
  have HS := hidMk hshort
  clear hb0 h4 hrg hn hck htun hshort
  have hnm : n ≤ 9223372036854775807 := by have h4 := (check_full HC.out).len; have := HN.out; omega
  go_wp2_with (refine wpList_load_row rfl 30 _ rfl g4 rfl _ (jobC J (.slice a n c)) _ _ H4.out Try.underlying30 rfl szJob ?_)
  refine (copyJob_any J a n c _ HN.out (by have h4 := (check_full HC.out).len; have := HN.out; omega) HR.out).mono ?_
  rintro e' w2 ⟨oa, oc, rfl, own, hb2⟩
  obtain ⟨_, _, e2, -, hog⟩ := Rg.of_own own
  cases e2
  have hz2 := hb2.size
  have H4' := hidMk (H4.out.below hb2 H4.out.lt)
  have HR' := hidMk (HR.out.up hb2)
  have HOG := hidMk hog
  have HB2 := hidMk (HB0.out.trans (hb2.mono HB0.out.size))
  clear own hog hb2
  go_wp2_with (first | (refine wpList_store_row rfl 30 _ _ rfl w2.heap.size (jobC J (.slice oa n oc)) rfl rfl _ _ (Bk.new _ _ _) szJob rfl (oneJob _ _ _ _) ?_; rw [World.setRow_alloc_new]))
  have q : Below w2.heap.size w2 (w2.alloc (.cells (jobC J (.slice oa n oc)) 30)) := (Below.refl _ _).alloc (Nat.le_refl _) _
  exact hepart4 HT.out HS.out (HB2.out.trans (q.mono HB2.out.size)) (H4'.out.below q H4'.out.lt) (HR'.out.below q) HN.out HC.out (Bk.new _ _ _) (HOG.out.below q) HB2.out.size (Nat.ne_of_lt H4'.out.lt)
set_option maxHeartbeats 4000000 in
set_option maxRecDepth 1000000 in
theorem hepart2 {w0 w : World} {b : Nat} {u0 u1 u2 u4 u5 u6 u7 u8 u9 u10 u11 u12 u13 u14 u15 u16 u17 u18 u19 u20 u21 u22 u23 u24 u25 u26 u27 u28 u29 u30 u31 u32 u33 u34 u35 u36 u37 u38 u39 u40 u41 u42 u43 u44 u45 u46 u47 u48 u49 u50 u51 u52 u53 u54 u55 u56 u57 u58 u59 u60 u61 u62 u63 u64 u65 u66 u67 u68 u69 u70 u71 u72 u73 u74 u75 u76 u77 u78 u79 u80 u81 u82 u83 u84 u85 u86 u87 u88 u89 u90 u91 u92 u93 u94 u95 u96 u97 u98 u99 u100 u101 u102 u103 u104 u105 u106 u107 u108 u109 u110 u111 u112 u113 u114 u115 u116 u117 u118 u119 u120 u121 u122 u123 u124 u125 u126 u127 u128 u129 u130 u131 u132 : Value} (htun : TunOK) (hshort : ShortOK) (hj : JobOKn 1 1) (hb0 : Below w0.heap.size w0 w) (hp : Pt w b) (hbw : w0.heap.size ≤ b) : Code.wp Try.prog herest2 (QHE w0) ⟨#[u0, u1, u2, (.pointer (some ⟨b, 0, none⟩)), u4, u5, u6, u7, u8, u9, u10, u11, u12, u13, u14, u15, u16, u17, u18, u19, u20, u21, u22, u23, u24, u25, u26, u27, u28, u29, u30, u31, u32, u33, u34, u35, u36, u37, u38, u39, u40, u41, u42, u43, u44, u45, u46, u47, u48, u49, u50, u51, u52, u53, u54, u55, u56, u57, u58, u59, u60, u61, u62, u63, u64, u65, u66, u67, u68, u69, u70, u71, u72, u73, u74, u75, u76, u77, u78, u79, u80, u81, u82, u83, u84, u85, u86, u87, u88, u89, u90, u91, u92, u93, u94, u95, u96, u97, u98, u99, u100, u101, u102, u103, u104, u105, u106, u107, u108, u109, u110, u111, u112, u113, u114, u115, u116, u117, u118, u119, u120, u121, u122, u123, u124, u125, u126, u127, u128, u129, u130, u131, u132], []⟩ w := by
  rw [herest2_eq]
  have HT := hidMk htun
  have HS := hidMk hshort
  have HJ := hidMk hj
  have HB0 := hidMk hb0
  clear htun hshort hj hb0
  have hz := HB0.out.size
  go_wp2_with fail
  refine (HJ.out b _ hp).mono ?_
  rintro e w2 ⟨M, ma, mn, mc, rfl, hmn, hmg, hck, hk, hp2⟩
  have hB2 := HB0.out.trans ((hk.mono hz).toBelow hbw)
  have HB2 := hidMk hB2
  have HMN := hidMk hmn
  have HMG := hidMk hmg
  have HCK := hidMk hck
  clear hk hp2 hB2 hmn hmg hck
  go_wp2_with (first | (refine wpList_store_row rfl 30 _ _ rfl w2.heap.size (jobC M (.slice ma mn mc)) rfl rfl _ _ (Bk.new _ _ _) szJob rfl (oneJob _ _ _ _) ?_; rw [World.setRow_alloc_new]))
  have q : Below w2.heap.size w2 (w2.alloc (.cells (jobC M (.slice ma mn mc)) 30)) := (Below.refl _ _).alloc (Nat.le_refl _) _
  exact hepart3 HT.out HS.out (HB2.out.trans (q.mono HB2.out.size)) (Bk.new _ _ _) (HMG.out.up q) HMN.out HCK.out
set_option maxHeartbeats 2000000 in
set_option maxRecDepth 1000000 in
theorem reedHeard_any (hj : JobOKn 1 1) (hshort : ShortOK) (htun : TunOK) (na : Option Addr) (nn nc : Nat) (nl : List Int) (w : World) (hnn : nn = nl.length) (hnm : nn ≤ 9223372036854775807) (hnl : Is w w.heap.size na nl) :
    Calls Try.prog 8 #[.slice na nn nc] w fun e w' => e = .returned (.bool true) ∧ Below w.heap.size w w' := by
  have HJ := hidMk hj
  have HS := hidMk hshort
  have HT := hidMk htun
  have HNN := hidMk hnn
  have HNL := hidMk hnl
  clear hj hshort htun hnn hnl
  go_enter Try.func8, Try.ntmps8
  show Code.wp Try.prog hebody (QHE w) _ _
  rw [hebody_eq]
  go_wp2_with fail
  rw [herest1_eq]
  go_wp2_with fail
  refine (newPot_any na nn nc nl _ HNN.out hnm HNL.out).mono ?_
  rintro e w1 ⟨s, t, rfl, hb, hB1⟩
  have hp1 : Pt w1 w.heap.size := ⟨_, _, hb⟩
  have HB1 := hidMk hB1
  clear hb hB1
  go_wp2_with fail
  exact hepart2 HT.out HS.out HJ.out HB1.out hp1 (Nat.le_refl _)
end Go.Proofs.Ytbebofmpimfbgaa
