/- Part 23 of the proof: WinB, Open. -/
import Derived.Deep.WholeRow
import Derived.Test.YtbndjijlinpkmaaChecked
import Derived.ProofKit
import Derived.ChangeSlices
import Derived.Deep.SlicePairs
import Derived.Lib.SmallJoins
import Derived.Test.YtbndjijlinpkmaaT22
import Derived.Test.YtbndjijlinpkmaaT10
/- The law ReedWindows: what it goes through. -/
namespace Go.Proofs.Ytbndjijlinpkmaa
set_option linter.all false
open Go.RowKit
set_option maxHeartbeats 4000000 in
set_option maxRecDepth 1000000 in
theorem wlpart5 {w0 w : World} {g4 g5 g10 g11 b : Nat} {J M : Jb} {a : Option Addr} {n c : Nat} {ma : Option Addr} {mn mc : Nat} {m1 m2 r : Int} {ca : Option Addr} {cc : Nat} {ob : Nat} {u0 u1 u3 u6 u7 u8 u12 u13 u14 u15 u16 u17 u18 u19 u20 u21 u22 u23 u24 u25 u26 u27 u28 u29 u30 u31 u32 u33 u34 u35 u36 u37 u38 u39 u40 u41 u42 u43 u44 u45 u46 u47 u48 u49 u50 u51 u52 u53 u54 u55 u56 u57 u58 u59 u60 u61 u62 u63 u64 u65 u66 u67 u68 u69 u70 u71 u72 u73 u74 u75 u76 u77 u78 u79 u80 u81 u82 u83 u84 u85 u86 u87 u88 u89 u90 u91 u92 u93 u94 u95 u96 u97 u98 u99 u100 u101 u102 u103 u104 u105 u106 u107 u108 u109 u110 u111 u112 u113 u114 u115 u116 u117 u118 u119 u120 u121 u122 u123 u124 u125 u126 u127 u128 u129 u130 u131 u132 u133 u134 u135 u136 u137 u138 u139 u140 u141 u142 u143 u144 u145 u146 u147 u148 u149 u150 u151 u152 u153 u154 u155 u156 u157 u158 u159 u160 u161 u162 u163 u164 u165 u166 u167 u168 u169 u170 u171 u172 u173 u174 u175 u176 u177 : Value} (htun : TunOK) (hs : W4S w0 w g4 g5 g10 b J M a n c ma mn mc m1 m2 r) (hc : Bk w g11 30 (jobC M (.slice ca mn cc))) (own : w.ownsRow ob 23 2 (.slice ca mn cc) mn (rgCells M.sh)) (hob : (g4 < ob ∧ g5 < ob ∧ g10 < ob) ∧ b < ob ∧ w0.heap.size ≤ ob) (hfar : ∀ g, Value.ownBlock (.slice ca mn cc) = some g → g < g11) (hrj : Rg w ob a J.sh) (hrm : Rg w ob ma M.sh) (h11 : ob ≤ g11) : Code.wp Try.prog wlrest5 (QWL w0) ⟨#[u0, u1, (.int .i64 r), u3, (.pointer (some ⟨g4, 0, none⟩)), (.pointer (some ⟨g5, 0, none⟩)), u6, u7, u8, (.pointer (some ⟨b, 0, none⟩)), (.pointer (some ⟨g10, 0, none⟩)), (.pointer (some ⟨g11, 0, none⟩)), u12, u13, u14, u15, u16, u17, u18, u19, u20, u21, u22, u23, u24, u25, u26, u27, u28, u29, u30, u31, u32, u33, u34, u35, u36, u37, u38, u39, u40, u41, u42, u43, u44, u45, u46, u47, u48, u49, u50, u51, u52, u53, u54, u55, u56, u57, u58, u59, u60, u61, u62, u63, u64, u65, u66, u67, u68, u69, u70, u71, u72, u73, u74, u75, u76, u77, u78, u79, u80, u81, u82, u83, u84, u85, u86, u87, u88, u89, u90, u91, u92, u93, u94, u95, u96, u97, u98, u99, u100, u101, u102, u103, u104, u105, u106, u107, u108, u109, u110, u111, u112, u113, u114, u115, u116, u117, u118, u119, u120, u121, u122, u123, u124, u125, u126, u127, u128, u129, u130, u131, u132, u133, u134, u135, u136, u137, u138, u139, u140, u141, u142, u143, u144, u145, u146, u147, u148, u149, u150, u151, u152, u153, u154, u155, u156, u157, u158, u159, u160, u161, u162, u163, u164, u165, u166, u167, u168, u169, u170, u171, u172, u173, u174, u175, u176, u177], []⟩ w := by
  rw [wlrest5_eq]
  have HT := hidMk htun
  have HS := hidMk hs
  obtain ⟨i0, hi, hz0, hz1, hz2⟩ := info_parts infoRange
  have Hi : Hid (Try.prog.info? 23 = some i0) := hi
  have Hz0 := hidMk hz0
  have Hz1 := hidMk hz1
  have Hz2 := hidMk hz2
  clear hi hz0 hz1 hz2
  have hm4 : mn ≤ 4 := by have h4 := (check_ok hs.ck).inn.len; have := hs.me; omega
  have s15 := hc.at_ 15 (.slice ca mn cc) rfl
  have f15 := hc.free 15
  have hl11 := hc.lt
  have hl5 := hs.more.lt
  have m0 := hs.more.at_ 0 (.int .i64 m1) rfl
  have m1' := hs.more.at_ 1 (.int .i64 m2) rfl
  have HC := hidMk hc
  have Own := hidMk own
  have HRJ := hidMk hrj
  have HRM := hidMk hrm
  have HFar := hidMk hfar
  have HOB := hidMk hob
  have hobw : ob ≤ w.heap.size := by omega
  clear hs htun hc own hrj hrm hfar hob
  go_wp2_with (at_builtin; refine wpList_append_own_at _ rfl (.tmp 40) (.tmp 42) 28 rfl ob 23 i0 (.agg #[.int .i64 0, .int .i64 0]) 2 16 Try.underlying28 Hi.out Hz0.out Hz1.out Hz2.out rfl (by decide) _ mn _ rfl (own_keep' Own.out) ⟨w.heap.size, 0, none⟩ 1 1 [.int .i64 m1, .int .i64 m2] rfl rfl (news_of_bk (Bk.new _ _ _)) (by simp [Value.oneCell']) (by unfold maxLen; omega) (by omega) (by simp; omega) ?_; intro v' w6 own' hg _ at_; obtain ⟨va, vc, rfl, hon, hOg⟩ := Rg.of_own (l := M.sh ++ [(m1, m2)]) (by rw [rgCells_snoc]; exact own'); have HG := hidMk (show (w.alloc (.cells #[.int .i64 m1, .int .i64 m2] 23)).grownBy w6 (Value.ownBlock (.slice ca mn cc)) from hg); have HAT := hidMk (show Value.ownBlock (.slice va (mn + 1) vc) = Value.ownBlock (.slice ca mn cc) ∨ Value.ownBlock (.slice va (mn + 1) vc) = some (w.alloc (.cells #[.int .i64 m1, .int .i64 m2] 23)).heap.size from at_); have HON := hidMk hon; have HOG := hidMk hOg; have hz6 := hg.size; simp only [World.size_alloc] at hz6; have c6 := ((HC.out.alloc (.cells #[.int .i64 m1, .int .i64 m2] 23)).grown HG.out (fun e => by have := HFar.out _ e.symm; omega)); have d15 := c6.at_ 15 (.slice ca mn cc) rfl; have g15 := c6.free 15; have C6 := hidMk c6; clear own' hg at_ c6 hon hOg)
  have hrow : ∀ g, Value.ownBlock (.slice ca mn cc) = some g → ob ≤ g := fun g e => (own_ge Own.out e)
  have hBo : Below ob w w6 := ((Below.refl ob w).alloc hobw _).grown HG.out (by simp; omega) hrow
  have hBo' : Below ob w (w6.setCell ⟨g11, 15, none⟩ (.slice va (mn + 1) vc)) := hBo.setCell h11 _
  have hOg' : Rg (w6.setCell ⟨g11, 15, none⟩ (.slice va (mn + 1) vc)) (w6.setCell ⟨g11, 15, none⟩ (.slice va (mn + 1) vc)).heap.size va (M.sh ++ [(m1, m2)]) := by
    intro k x hk
    obtain ⟨q, off, e, hq, e0, e1⟩ := HOG.out k x hk
    have hne : g11 ≠ q := by
      rintro rfl
      rcases HAT.out with h | h
      · rw [e] at h
        exact Nat.lt_irrefl _ (HFar.out _ h.symm)
      · rw [e] at h
        have h2 : g11 = (w.alloc (.cells #[.int .i64 m1, .int .i64 m2] 23)).heap.size := by injection h
        simp at h2
        omega
    exact ⟨q, off, e, by simpa using hq, (cell_other _ _ _ _ _ _ hne).trans e0, (cell_other _ _ _ _ _ _ hne).trans e1⟩
  exact wlpart6 (O := { M with sh := M.sh ++ [(m1, m2)] }) HT.out (HS.out.nextB hBo' HOB.out (by simp; omega) HRJ.out HRM.out) (C6.out.put 15 _) hOg' (by simpa using HON.out) (by omega)
set_option maxHeartbeats 4000000 in
set_option maxRecDepth 1000000 in
theorem wlpart4 {w0 w : World} {g4 g5 g10 b : Nat} {J M : Jb} {a : Option Addr} {n c : Nat} {ma : Option Addr} {mn mc : Nat} {m1 m2 r : Int} {u0 u1 u3 u6 u7 u8 u11 u12 u13 u14 u15 u16 u17 u18 u19 u20 u21 u22 u23 u24 u25 u26 u27 u28 u29 u30 u31 u32 u33 u34 u35 u36 u37 u38 u39 u40 u41 u42 u43 u44 u45 u46 u47 u48 u49 u50 u51 u52 u53 u54 u55 u56 u57 u58 u59 u60 u61 u62 u63 u64 u65 u66 u67 u68 u69 u70 u71 u72 u73 u74 u75 u76 u77 u78 u79 u80 u81 u82 u83 u84 u85 u86 u87 u88 u89 u90 u91 u92 u93 u94 u95 u96 u97 u98 u99 u100 u101 u102 u103 u104 u105 u106 u107 u108 u109 u110 u111 u112 u113 u114 u115 u116 u117 u118 u119 u120 u121 u122 u123 u124 u125 u126 u127 u128 u129 u130 u131 u132 u133 u134 u135 u136 u137 u138 u139 u140 u141 u142 u143 u144 u145 u146 u147 u148 u149 u150 u151 u152 u153 u154 u155 u156 u157 u158 u159 u160 u161 u162 u163 u164 u165 u166 u167 u168 u169 u170 u171 u172 u173 u174 u175 u176 u177 : Value} (htun : TunOK) (hs : W4S w0 w g4 g5 g10 b J M a n c ma mn mc m1 m2 r) : Code.wp Try.prog wlrest4 (QWL w0) ⟨#[u0, u1, (.int .i64 r), u3, (.pointer (some ⟨g4, 0, none⟩)), (.pointer (some ⟨g5, 0, none⟩)), u6, u7, u8, (.pointer (some ⟨b, 0, none⟩)), (.pointer (some ⟨g10, 0, none⟩)), u11, u12, u13, u14, u15, u16, u17, u18, u19, u20, u21, u22, u23, u24, u25, u26, u27, u28, u29, u30, u31, u32, u33, u34, u35, u36, u37, u38, u39, u40, u41, u42, u43, u44, u45, u46, u47, u48, u49, u50, u51, u52, u53, u54, u55, u56, u57, u58, u59, u60, u61, u62, u63, u64, u65, u66, u67, u68, u69, u70, u71, u72, u73, u74, u75, u76, u77, u78, u79, u80, u81, u82, u83, u84, u85, u86, u87, u88, u89, u90, u91, u92, u93, u94, u95, u96, u97, u98, u99, u100, u101, u102, u103, u104, u105, u106, u107, u108, u109, u110, u111, u112, u113, u114, u115, u116, u117, u118, u119, u120, u121, u122, u123, u124, u125, u126, u127, u128, u129, u130, u131, u132, u133, u134, u135, u136, u137, u138, u139, u140, u141, u142, u143, u144, u145, u146, u147, u148, u149, u150, u151, u152, u153, u154, u155, u156, u157, u158, u159, u160, u161, u162, u163, u164, u165, u166, u167, u168, u169, u170, u171, u172, u173, u174, u175, u176, u177], []⟩ w := by
  rw [wlrest4_eq]
  have HT := hidMk htun
  have HS := hidMk hs
  have k0 := hs.mj
  have hm4 : mn ≤ 4 := by have h4 := (check_ok hs.ck).inn.len; have := hs.me; omega
  clear hs htun
  go_wp2_with (refine wpList_load_row rfl 30 _ rfl g10 rfl _ (jobC M (.slice ma mn mc)) _ _ k0 Try.underlying30 rfl szJob ?_)
  refine (copyJob_any M ma mn mc _ HS.out.me (by omega) HS.out.mg).mono ?_
  rintro e w3 ⟨ca, cc, rfl, own, hb3⟩
  have hz3 := hb3.size
  have HS3 := hidMk ((HS.out.next hb3).next ((Below.refl _ _).alloc (Nat.le_refl _) (.cells (jobC M (.slice ca mn cc)) 30)))
  have h1 := HS.out.job.lt
  have h2 := HS.out.more.lt
  have h3 := HS.out.mj.lt
  have h4 := HS.out.pt.lt
  have h5 := HS.out.b0.size
  have Own := hidMk own
  have HRJ := hidMk (HS.out.rg.below hb3)
  have HRM := hidMk (HS.out.mg.below hb3)
  clear own hb3 k0 HS
  have kz : Bk (w3.alloc (.cells (jobC zeroJ (.slice none 0 0)) 30)) w3.heap.size 30 (jobC zeroJ (.slice none 0 0)) := Bk.new _ _ _
  go_wp2_with (first | (refine wpList_store_row rfl 30 _ _ rfl w3.heap.size (jobC M (.slice ca mn cc)) rfl rfl _ _ kz szJob rfl (oneJob _ _ _ _) ?_; rw [World.setRow_alloc_new]))
  exact wlpart5 HT.out HS3.out (Bk.new _ _ _) (own_keep' Own.out) ⟨⟨h1, h2, h3⟩, h4, h5⟩ (fun g e => (own_lt Own.out e)) (HRJ.out.below ((Below.refl w3.heap.size w3).alloc (Nat.le_refl _) _ |>.mono hz3)) (HRM.out.below ((Below.refl w3.heap.size w3).alloc (Nat.le_refl _) _ |>.mono hz3)) hz3
set_option maxHeartbeats 4000000 in
set_option maxRecDepth 1000000 in
theorem wlpart2 {w0 : World} {J : Jb} {a : Option Addr} {n c : Nat} {m1 m2 r : Int} {na : Option Addr} {nn nc : Nat} {nl : List Int} {g4 g5 : Nat} {w : World} {u0 u1 u6 u7 u8 u9 u10 u11 u12 u13 u14 u15 u16 u17 u18 u19 u20 u21 u22 u23 u24 u25 u26 u27 u28 u29 u30 u31 u32 u33 u34 u35 u36 u37 u38 u39 u40 u41 u42 u43 u44 u45 u46 u47 u48 u49 u50 u51 u52 u53 u54 u55 u56 u57 u58 u59 u60 u61 u62 u63 u64 u65 u66 u67 u68 u69 u70 u71 u72 u73 u74 u75 u76 u77 u78 u79 u80 u81 u82 u83 u84 u85 u86 u87 u88 u89 u90 u91 u92 u93 u94 u95 u96 u97 u98 u99 u100 u101 u102 u103 u104 u105 u106 u107 u108 u109 u110 u111 u112 u113 u114 u115 u116 u117 u118 u119 u120 u121 u122 u123 u124 u125 u126 u127 u128 u129 u130 u131 u132 u133 u134 u135 u136 u137 u138 u139 u140 u141 u142 u143 u144 u145 u146 u147 u148 u149 u150 u151 u152 u153 u154 u155 u156 u157 u158 u159 u160 u161 u162 u163 u164 u165 u166 u167 u168 u169 u170 u171 u172 u173 u174 u175 u176 u177 : Value} (htun : TunOK) (hjob : JobOK) (hs : W0S w0 w g4 g5 J a n c m1 m2 r na nn nl) (hn20 : n ≤ 20) : Code.wp Try.prog wlrest2 (QWL w0) ⟨#[u0, u1, (.int .i64 r), (.slice na nn nc), (.pointer (some ⟨g4, 0, none⟩)), (.pointer (some ⟨g5, 0, none⟩)), u6, u7, u8, u9, u10, u11, u12, u13, u14, u15, u16, u17, u18, u19, u20, u21, u22, u23, u24, u25, u26, u27, u28, u29, u30, u31, u32, u33, u34, u35, u36, u37, u38, u39, u40, u41, u42, u43, u44, u45, u46, u47, u48, u49, u50, u51, u52, u53, u54, u55, u56, u57, u58, u59, u60, u61, u62, u63, u64, u65, u66, u67, u68, u69, u70, u71, u72, u73, u74, u75, u76, u77, u78, u79, u80, u81, u82, u83, u84, u85, u86, u87, u88, u89, u90, u91, u92, u93, u94, u95, u96, u97, u98, u99, u100, u101, u102, u103, u104, u105, u106, u107, u108, u109, u110, u111, u112, u113, u114, u115, u116, u117, u118, u119, u120, u121, u122, u123, u124, u125, u126, u127, u128, u129, u130, u131, u132, u133, u134, u135, u136, u137, u138, u139, u140, u141, u142, u143, u144, u145, u146, u147, u148, u149, u150, u151, u152, u153, u154, u155, u156, u157, u158, u159, u160, u161, u162, u163, u164, u165, u166, u167, u168, u169, u170, u171, u172, u173, u174, u175, u176, u177], []⟩ w := by
  rw [wlrest2_eq]
  have HT := hidMk htun
  have HJ := hidMk hjob
  have HS := hidMk hs
  have hlt4 := hs.job.lt
  have hlt5 := hs.more.lt
  clear hs htun hjob
  go_wp2_with fail
  refine (newPot_any na nn nc nl _ HS.out.nln.1 HS.out.nln.2 HS.out.nums).mono ?_
  rintro e w1 ⟨s, t, rfl, hb, hB1⟩
  have hp1 : Pt w1 w.heap.size := ⟨_, _, hb⟩
  have hz1 := hB1.size
  have HB1 := hidMk hB1
  clear hb hB1
  go_wp2_with fail
  rw [wlrest3_eq]
  go_wp2_with fail
  refine (HJ.out _ _ hp1).mono ?_
  rintro e w2 ⟨M, ma, mn, mc, rfl, hmn, hmg, hck, hk2, hp2⟩
  have hz2 := hk2.size
  have hB2 : Below w.heap.size w w2 := HB1.out.trans ((hk2.mono hz1).toBelow (Nat.le_refl _))
  have hsz := HS.out.b0.size
  have H4 : W4S w0 (w2.alloc (.cells (jobC M (.slice ma mn mc)) 30)) g4 g5 w2.heap.size w.heap.size J M a n c ma mn mc m1 m2 r :=
    ⟨(HS.out.b0.trans (hB2.mono hsz)).alloc (by omega) _, hsz, hp2.alloc _, (HS.out.job.below hB2 hlt4).alloc _, (HS.out.more.below hB2 hlt5).alloc _, (HS.out.rg.up hB2).up ((Below.refl _ _).alloc (Nat.le_refl _) _), HS.out.en, hn20, HS.out.ri, Bk.new _ _ _, hmg.up ((Below.refl _ _).alloc (Nat.le_refl _) _), hmn, hck⟩
  have HH4 := hidMk H4
  clear H4 hmg hck hmn hk2 hp2 hB2 HB1 HS
  go_wp2_with (first | (refine wpList_store_row rfl 30 _ _ rfl w2.heap.size (jobC M (.slice ma mn mc)) rfl rfl _ _ (Bk.new _ _ _) szJob rfl (oneJob _ _ _ _) ?_; rw [World.setRow_alloc_new]))
  exact wlpart4 HT.out HH4.out
set_option maxHeartbeats 4000000 in
set_option maxRecDepth 1000000 in
theorem wlpart1 {w0 : World} {J : Jb} {a : Option Addr} {n c : Nat} {m1 m2 r : Int} {na : Option Addr} {nn nc : Nat} {nl : List Int} {g4 g5 : Nat} {w : World} {u0 u1 u6 u7 u8 u9 u10 u11 u12 u13 u14 u15 u16 u17 u18 u19 u20 u21 u22 u23 u24 u25 u26 u27 u28 u29 u30 u31 u32 u33 u34 u35 u36 u37 u38 u39 u40 u41 u42 u43 u44 u45 u46 u47 u48 u49 u50 u51 u52 u53 u54 u55 u56 u57 u58 u59 u60 u61 u62 u63 u64 u65 u66 u67 u68 u69 u70 u71 u72 u73 u74 u75 u76 u77 u78 u79 u80 u81 u82 u83 u84 u85 u86 u87 u88 u89 u90 u91 u92 u93 u94 u95 u96 u97 u98 u99 u100 u101 u102 u103 u104 u105 u106 u107 u108 u109 u110 u111 u112 u113 u114 u115 u116 u117 u118 u119 u120 u121 u122 u123 u124 u125 u126 u127 u128 u129 u130 u131 u132 u133 u134 u135 u136 u137 u138 u139 u140 u141 u142 u143 u144 u145 u146 u147 u148 u149 u150 u151 u152 u153 u154 u155 u156 u157 u158 u159 u160 u161 u162 u163 u164 u165 u166 u167 u168 u169 u170 u171 u172 u173 u174 u175 u176 u177 : Value} (htun : TunOK) (hjob : JobOK) (hs : W0S w0 w g4 g5 J a n c m1 m2 r na nn nl) : Code.wp Try.prog wlrest1 (QWL w0) ⟨#[u0, u1, (.int .i64 r), (.slice na nn nc), (.pointer (some ⟨g4, 0, none⟩)), (.pointer (some ⟨g5, 0, none⟩)), u6, u7, u8, u9, u10, u11, u12, u13, u14, u15, u16, u17, u18, u19, u20, u21, u22, u23, u24, u25, u26, u27, u28, u29, u30, u31, u32, u33, u34, u35, u36, u37, u38, u39, u40, u41, u42, u43, u44, u45, u46, u47, u48, u49, u50, u51, u52, u53, u54, u55, u56, u57, u58, u59, u60, u61, u62, u63, u64, u65, u66, u67, u68, u69, u70, u71, u72, u73, u74, u75, u76, u77, u78, u79, u80, u81, u82, u83, u84, u85, u86, u87, u88, u89, u90, u91, u92, u93, u94, u95, u96, u97, u98, u99, u100, u101, u102, u103, u104, u105, u106, u107, u108, u109, u110, u111, u112, u113, u114, u115, u116, u117, u118, u119, u120, u121, u122, u123, u124, u125, u126, u127, u128, u129, u130, u131, u132, u133, u134, u135, u136, u137, u138, u139, u140, u141, u142, u143, u144, u145, u146, u147, u148, u149, u150, u151, u152, u153, u154, u155, u156, u157, u158, u159, u160, u161, u162, u163, u164, u165, u166, u167, u168, u169, u170, u171, u172, u173, u174, u175, u176, u177], []⟩ w := by
  rw [wlrest1_eq]
  have c15 := hs.job.at_ 15 (.slice a n c) rfl
  have HS := hidMk hs
  have HT := hidMk htun
  have HJ := hidMk hjob
  have hnm := hs.nm
  clear hs htun hjob
  by_cases h20 : 20 < n
  · unfold QWL
    go_wp2_with (go_at_call 5; refine (HT.out _).mono ?_; rintro e w2 ⟨rfl, hb⟩)
    go_ret
    exact ⟨rfl, HS.out.b0.trans (hb.mono HS.out.b0.size)⟩
  · go_wp2_with fail
    exact wlpart2 HT.out HJ.out HS.out (by omega)
set_option maxHeartbeats 1000000 in
set_option maxRecDepth 100000 in
theorem law_any (hjob : JobOK) (htun : TunOK) (J : Jb) (a : Option Addr) (n c : Nat) (m1 m2 r : Int) (na : Option Addr) (nn nc : Nat) (nl : List Int) (w : World)
    (hn : n = J.sh.length) (hm : n ≤ 9223372036854775807) (h : Rg w w.heap.size a J.sh) (hr : -9223372036854775808 ≤ r ∧ r ≤ 9223372036854775807) (hnn : nn = nl.length ∧ nn ≤ 9223372036854775807) (hnl : Is w w.heap.size na nl) :
    Calls Try.prog 3 #[.agg (jobC J (.slice a n c)), .agg #[.int .i64 m1, .int .i64 m2], .int .i64 r, .slice na nn nc] w fun e w' => e = .returned (.bool true) ∧ Below w.heap.size w w' := by
  have hW : Below w.heap.size w ((w.alloc (.cells (jobC J (.slice a n c)) 30)).alloc (.cells #[.int .i64 m1, .int .i64 m2] 23)) := ((Below.refl _ _).alloc (Nat.le_refl _) _).alloc (by simp) _
  have HS : Hid (W0S w ((w.alloc (.cells (jobC J (.slice a n c)) 30)).alloc (.cells #[.int .i64 m1, .int .i64 m2] 23)) w.heap.size (w.heap.size + 1) J a n c m1 m2 r na nn nl) :=
    ⟨hW, (Bk.new _ _ _).alloc _, Bk.newAt _ _ _ _ (by simp), h.up hW, hn, hm, hr, hnl.up hW, hnn⟩
  have HJ := hidMk hjob
  have HT := hidMk htun
  clear hn hm h hr hnn hnl hW hjob htun
  go_enter Try.func3, Try.ntmps3
  show Code.wp Try.prog wlbody (QWL w) _ _
  rw [wlbody_eq]
  go_wp2_with fail
  exact wlpart1 HT.out HJ.out HS.out
end Go.Proofs.Ytbndjijlinpkmaa
/- An argument that is a job, and one that is a range, opened to their numbers. -/
namespace Go.Proofs.Ytbndjijlinpkmaa
set_option linter.all false
open Go Go.ChangeShapes Go.WideShapes Go.ChangeAt Go.RowKit Go.Deep

section
variable {H : Type} {enc : TypeId × Value → H} {w : World} {base : Nat} {spare : Nat → Bool} {held : Bool}
theorem fld {t : TypeId} {fs : Array Field} {fuel : Nat} {cs : List Value} {x : DataW H × List MemPlace} (ht : Try.prog.underlying t = some (.struct fs)) (h : DataW.trod enc Try.prog w base spare held fuel t cs = some x) (i : Nat) (f : Field) (hf : fs[i]? = some f) :
    ∃ n y, DataW.trod enc Try.prog w base spare held n f.type ((cs.drop f.offset).take (Try.prog.cellsOf f.type)) = some y := by
  obtain ⟨xs, n, _, _, _, hl, hg⟩ := DataW.trod_struct ht h
  have := hg i f hf
  have hi : i < xs.length := by rw [hl]; exact (Array.getElem?_eq_some_iff.1 hf).1
  exact ⟨n, xs[i], this.trans (List.getElem?_eq_getElem hi)⟩
theorem oc1 : Try.prog.cellsOf 3 = 1 := by kernel_rfl
theorem oc2 : Try.prog.cellsOf 23 = 2 := by kernel_rfl
theorem oc6 : Try.prog.cellsOf 25 = 6 := by kernel_rfl
theorem oc9 : Try.prog.cellsOf 27 = 9 := by kernel_rfl
theorem ocS : Try.prog.cellsOf 28 = 1 := by kernel_rfl
theorem oc18 : Try.prog.cellsOf 30 = 18 := by kernel_rfl
theorem int_open {fuel : Nat} {x : Value} {z : DataW H × List MemPlace} (h : DataW.trod enc Try.prog w base spare held fuel 3 [x] = some z) : ∃ a, x = .int .i64 a ∧ (Lit.int .i64 a).wf = true := by
  obtain ⟨n, e, _, hw⟩ := DataW.trod_int Try.underlying3 h
  exact ⟨n, by simpa using e, hw⟩
theorem rng_open {fuel : Nat} {x y : Value} {z : DataW H × List MemPlace} (h : DataW.trod enc Try.prog w base spare held fuel 23 [x, y] = some z) : ∃ a b, x = .int .i64 a ∧ y = .int .i64 b := by
  obtain ⟨n0, y0, h0⟩ := fld Try.underlying23 h 0 _ rfl
  obtain ⟨n1, y1, h1⟩ := fld Try.underlying23 h 1 _ rfl
  simp [oc1] at h0 h1
  obtain ⟨a, rfl, _⟩ := int_open h0
  obtain ⟨b, rfl, _⟩ := int_open h1
  exact ⟨a, b, rfl, rfl⟩
theorem ton_open {fuel : Nat} {c0 c1 c2 c3 c4 c5 : Value} {z : DataW H × List MemPlace} (h : DataW.trod enc Try.prog w base spare held fuel 25 [c0, c1, c2, c3, c4, c5] = some z) :
    ∃ a0 a1 a2 a3 a4 a5, c0 = .int .i64 a0 ∧ c1 = .int .i64 a1 ∧ c2 = .int .i64 a2 ∧ c3 = .int .i64 a3 ∧ c4 = .int .i64 a4 ∧ c5 = .int .i64 a5 := by
  obtain ⟨n0, y0, h0⟩ := fld Try.underlying25 h 0 _ rfl
  obtain ⟨n1, y1, h1⟩ := fld Try.underlying25 h 1 _ rfl
  obtain ⟨n2, y2, h2⟩ := fld Try.underlying25 h 2 _ rfl
  simp [oc2] at h0 h1 h2
  obtain ⟨a0, a1, rfl, rfl⟩ := rng_open h0
  obtain ⟨a2, a3, rfl, rfl⟩ := rng_open h1
  obtain ⟨a4, a5, rfl, rfl⟩ := rng_open h2
  exact ⟨a0, a1, a2, a3, a4, a5, rfl, rfl, rfl, rfl, rfl, rfl⟩
theorem file_open {fuel : Nat} {c0 c1 c2 c3 c4 c5 c6 c7 c8 : Value} {z : DataW H × List MemPlace} (h : DataW.trod enc Try.prog w base spare held fuel 27 [c0, c1, c2, c3, c4, c5, c6, c7, c8] = some z) :
    ∃ a0 a1 a2 a3 a4 a5 a6 a7 a8, c0 = .int .i64 a0 ∧ c1 = .int .i64 a1 ∧ c2 = .int .i64 a2 ∧ c3 = .int .i64 a3 ∧ c4 = .int .i64 a4 ∧ c5 = .int .i64 a5 ∧ c6 = .int .i64 a6 ∧ c7 = .int .i64 a7 ∧ c8 = .int .i64 a8 := by
  obtain ⟨n0, y0, h0⟩ := fld Try.underlying27 h 0 _ rfl
  obtain ⟨n1, y1, h1⟩ := fld Try.underlying27 h 1 _ rfl
  obtain ⟨n2, y2, h2⟩ := fld Try.underlying27 h 2 _ rfl
  obtain ⟨n3, y3, h3⟩ := fld Try.underlying27 h 3 _ rfl
  obtain ⟨n4, y4, h4⟩ := fld Try.underlying27 h 4 _ rfl
  simp [oc1, oc2] at h0 h1 h2 h3 h4
  obtain ⟨a0, a1, rfl, rfl⟩ := rng_open h0
  obtain ⟨a2, a3, rfl, rfl⟩ := rng_open h1
  obtain ⟨a4, a5, rfl, rfl⟩ := rng_open h2
  obtain ⟨a6, a7, rfl, rfl⟩ := rng_open h3
  obtain ⟨a8, rfl, _⟩ := int_open h4
  exact ⟨a0, a1, a2, a3, a4, a5, a6, a7, a8, rfl, rfl, rfl, rfl, rfl, rfl, rfl, rfl, rfl⟩
def intV : Value → Int
  | .int _ n => n
  | _ => 0
theorem nospot {W : World} (a : Addr) {k : IntKind} {n : Int} (h0 : W.cell? a = some (.int k n)) : ∃ b o, a = ⟨b, o, none⟩ ∧ b < W.heap.size := by
  obtain ⟨ab, ao, asp⟩ := a
  have hs : asp = none ∧ ab < W.heap.size := by
    unfold World.cell? at h0
    cases hq : W.heap[ab]? with
    | none => simp only [hq] at h0; cases h0
    | some o =>
      refine ⟨?_, (Array.getElem?_eq_some_iff.1 hq).1⟩
      simp only [hq] at h0
      cases o with
      | cells cs t f =>
        cases asp with
        | none => rfl
        | some z => simp at h0
      | _ => simp at h0
  obtain ⟨rfl, hb⟩ := hs
  exact ⟨ab, ao, rfl, hb⟩
theorem add_plain (b o k : Nat) : (⟨b, o, none⟩ : Addr).add k = ⟨b, o + k, none⟩ := by
  unfold Addr.add
  split
  · rename_i hk0; subst hk0; rfl
  · rfl
theorem rgs_open {fuel : Nat} {v : Value} {z : DataW H × List MemPlace} (h : DataW.trod enc Try.prog w base spare held fuel 28 [v] = some z) :
    ∃ (a : Option Addr) (n c : Nat) (l : List R2), v = .slice a n c ∧ n = l.length ∧ n ≤ 9223372036854775807 ∧ Rg w w.heap.size a l := by
  rcases open_slice_pairs Try.underlying28 Try.underlying23 oc2 rfl rfl oc1 oc1 h with ⟨hcs, _⟩ | ⟨a, len, cap, m, n, V0, V1, D0, D1, P0, P1, hcs, _, hl, hm, hmm, _, hx⟩
  · exact ⟨none, 0, 0, [], by simpa using hcs, rfl, by decide, Rg.nil _ _ _⟩
  · have hv : v = .slice (some a) len cap := by simpa using hcs
    have hlm : len ≤ m := by rw [hmm]; split <;> omega
    refine ⟨some a, len, cap, (List.range len).map fun i => (intV (V0 i), intV (V1 i)), hv, by simp, by unfold maxLen at hm; omega, ?_⟩
    intro k x hk
    have hkl : k < len := by simpa using (List.getElem?_eq_some_iff.1 hk).1
    have hx' : x = (intV (V0 k), intV (V1 k)) := by
      rw [List.getElem?_map, List.getElem?_range hkl] at hk
      simpa using hk.symm
    obtain ⟨e0, e1, t0, t1⟩ := hx k (by omega)
    obtain ⟨f0, _, s0, _⟩ := hx 0 (by omega)
    obtain ⟨i0, hi0, _⟩ := int_open t0
    obtain ⟨i1, hi1, _⟩ := int_open t1
    obtain ⟨j0, hj0, _⟩ := int_open s0
    rw [hi0] at e0
    rw [hi1] at e1
    rw [hj0] at f0
    have ez : a.add (0 * 2) = a := rfl
    rw [ez] at f0
    obtain ⟨ab, ao, rfl, hb⟩ := nospot a f0
    rw [add_plain] at e0 e1
    subst hx'
    refine ⟨ab, ao, rfl, hb, ?_, ?_⟩
    · rw [hi0]; exact e0
    · rw [hi1]; exact e1
set_option maxRecDepth 100000 in
theorem job_open {r : Reach} {b0 : Nat} {v : Value} {d : DataW H} {p : List MemPlace} (hv : Value.okWide Try.prog w r b0 30 v) (h : DataW.Trod enc Try.prog w base spare held 30 v d p) :
    ∃ (J : Jb) (a : Option Addr) (n c : Nat), v = .agg (jobC J (.slice a n c)) ∧ n = J.sh.length ∧ n ≤ 9223372036854775807 ∧ Rg w w.heap.size a J.sh := by
  obtain ⟨cs, rfl, hsz⟩ := okWide_struct Try.underlying30 hv
  obtain ⟨l⟩ := cs
  match l, hsz.trans oc18 with
  | [c0, c1, c2, c3, c4, c5, c6, c7, c8, c9, c10, c11, c12, c13, c14, c15, c16, c17], _ =>
    obtain ⟨fuel, hf⟩ := h
    obtain ⟨n0, y0, h0⟩ := fld Try.underlying30 hf 0 _ rfl
    obtain ⟨n1, y1, h1⟩ := fld Try.underlying30 hf 1 _ rfl
    obtain ⟨n2, y2, h2⟩ := fld Try.underlying30 hf 2 _ rfl
    obtain ⟨n3, y3, h3⟩ := fld Try.underlying30 hf 3 _ rfl
    obtain ⟨n4, y4, h4⟩ := fld Try.underlying30 hf 4 _ rfl
    simp [oc1, oc6, oc9, ocS, Value.cells] at h0 h1 h2 h3 h4
    obtain ⟨a0, a1, a2, a3, a4, a5, rfl, rfl, rfl, rfl, rfl, rfl⟩ := ton_open h0
    obtain ⟨b0, b1, b2, b3, b4, b5, b6, b7, b8, rfl, rfl, rfl, rfl, rfl, rfl, rfl, rfl, rfl⟩ := file_open h1
    obtain ⟨a, n, c, l, rfl, hn, hm, hrg⟩ := rgs_open h2
    obtain ⟨q, rfl, _⟩ := int_open h3
    obtain ⟨r, rfl, _⟩ := int_open h4
    exact ⟨⟨a0, a1, a2, a3, a4, a5, b0, b1, b2, b3, b4, b5, b6, b7, b8, q, r, l⟩, a, n, c, rfl, hn, hm, hrg⟩
set_option maxRecDepth 100000 in
theorem range_open {r : Reach} {b0 : Nat} {v : Value} {d : DataW H} {p : List MemPlace} (hv : Value.okWide Try.prog w r b0 23 v) (h : DataW.Trod enc Try.prog w base spare held 23 v d p) :
    ∃ a b, v = .agg #[.int .i64 a, .int .i64 b] := by
  obtain ⟨cs, rfl, hsz⟩ := okWide_struct Try.underlying23 hv
  obtain ⟨l⟩ := cs
  match l, hsz.trans oc2 with
  | [c0, c1], _ =>
    obtain ⟨fuel, hf⟩ := h
    simp [Value.cells] at hf
    obtain ⟨a, b, rfl, rfl⟩ := rng_open hf
    exact ⟨a, b, rfl⟩
end
end Go.Proofs.Ytbndjijlinpkmaa
