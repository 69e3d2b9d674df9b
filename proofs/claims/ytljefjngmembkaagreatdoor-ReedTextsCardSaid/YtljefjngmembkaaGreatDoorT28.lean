/- Part 28 of the proof: RtK. -/
import Derived.Test.YtljefjngmembkaaGreatDoorT27
import Derived.Test.YtljefjngmembkaaGreatDoorT21
namespace Go.Proofs.YtljefjngmembkaaGreatDoor
set_option linter.all false
open Go.RowKit Go.Lib
theorem int_row {w : World} {B : Nat} {v : Value} {l : List Int} (h : w.ownsRow B 3 1 v l.length (l.map (Value.int .i64))) (h0 : l ≠ []) : ∃ q cp,v = .slice (some ⟨q,0,none⟩) l.length cp ∧ B ≤ q ∧ q < w.heap.size ∧ ∀ k x,l[k]? = some x → w.cell? ⟨q,k,none⟩ = some (.int .i64 x) := by
  rcases h.2 with ⟨_,h⟩ | ⟨g,cap,cur,rfl,hb,hg,hnc,hcm,hcs,htk⟩
  · exact absurd (List.length_eq_zero_iff.1 h) h0
  · refine ⟨g,cap,rfl,hb,(Array.getElem?_eq_some_iff.1 hg).1,fun k x hk => ?_⟩
    have hkl := (List.getElem?_eq_some_iff.1 hk).1
    rw [cell_of_row w g k cur 3 (0,0) hg,← Array.getElem?_toList]
    have h2 : (cur.toList.take (l.length * 1))[k]? = some (.int .i64 x) := by rw [htk,List.getElem?_map,hk]; rfl
    rw [List.getElem?_take_of_lt (by omega)] at h2
    exact h2
theorem lines_cut {T : List UInt8} {L : List (List UInt8)} (h : split T [10] = L) {i : Nat} {x : List UInt8} (hx : L[i]? = some x) :
    (i + 1 < L.length → cut (join (L.drop i) [10]) [10] = (x,join (L.drop (i + 1)) [10],true)) ∧ (i + 1 = L.length → cut (join (L.drop i) [10]) [10] = (x,[],false) ∧ join (L.drop i) [10] = x) := by
  have hn : (10 : UInt8) ∉ x := (Tx.join_split 10 T.length T (Nat.le_refl _)).2 x (by rw [h]; exact List.mem_of_getElem? hx)
  obtain ⟨hl,he⟩ := List.getElem?_eq_some_iff.1 hx
  rw [List.drop_eq_getElem_cons hl,he]
  refine ⟨fun hi => ?_,fun hi => ?_⟩
  · rw [List.drop_eq_getElem_cons hi,Tx.join_two]
    exact Tx.cut_at hn
  · rw [List.drop_of_length_le (by omega),join_one]
    exact ⟨Tx.cut_no hn,rfl⟩
theorem ap_head {word : List UInt8} {r n : Nat} {ps : List (List UInt8)} {q : List R2 × List Int} (h : ap word r n ps = some q) : ps.head? = some word := by
  unfold ap at h
  split at h
  · rename_i hh
    exact hh.2
  · cases h
theorem parse23_bad {text a b : List UInt8} {J : Jb} {fuel line : Nat} (h : cut text [10] = (a,b,true)) (h1 : ap shiftW 1 0 (split a [32]) = none) (h2 : ap passW 0 2 (split a [32]) = none) : ps2 (fuel + 1) J text line = (J,line) := by
  by_cases hh : (split a [32]).head? = some shiftW
  · exact parse2_bad h hh h1
  · exact parse3_bad h hh h2
theorem g2_at {g Bs g2 : Nat} {w1 w : World} {J : Jb} {sv : Value} {cs : Array Value} (h : PJ g Bs w1 J sv w) (hb : Bk w1 g2 30 cs) (hl : g2 < Bs ∧ g2 ≠ g) : Bk w g2 30 cs := (h.pb.heap g2 hl.1 hl.2).trans hb
theorem readJ_line {T : List UInt8} {J : Jb} {line : Nat} (h3 : ¬ 300 < T.length) (h : parseJ T = (J,line)) (hl : 0 < line) : readJ T = (zeroJb,line,2) := by
  unfold readJ
  rw [if_neg h3,h]
  simp only [hl,if_true]
def PosR (T : ByteArray) (L : List (List UInt8)) (i : Nat) (en : Bool) (J : Jb) : Prop := J.sh.length ≤ i ∧
  ((en = false ∧ i = 0 ∧ J = zeroJb) ∨ (en = false ∧ i = 1 ∧ parseJ T.data.toList = ps1 J (join (L.drop i) [10])) ∨
   (en = false ∧ 2 ≤ i ∧ ∃ fuel,(join (L.drop i) [10]).length < fuel ∧ parseJ T.data.toList = ps2 fuel J (join (L.drop i) [10]) (i + 1)) ∨
   (en = true ∧ parseJ T.data.toList = (J,if join (L.drop i) [10] = [] then 0 else i + 1)))
def RDI (T : ByteArray) (l : List ByteArray) (m ql cpl g : Nat) (w0 w1 : World) (a_ : Act) (wr : World) : Prop := ∃ (u0 u1 u3 u4 u9 A0 A1 A2 A3 A4 A5 A6 A7 A8 A9 Aa Ab Ac Ad Ae Af Ag Ah Ai Aj Ak Al Am An Ao Ap Aq Ar As At Au Av Aw Ax Ay Az C0 C1 C2 C3 C4 C5 C6 C7 C8 C9 Ca Cb Cc Cd Ce Cf Cg Ch Ci Cj Ck Cl Cm Cn Co Cp Cq Cr Cs Ct Cu Cv Cw Cx Cy Cz D0 D1 D2 D3 D4 D5 D6 D7 D8 D9 Da Db Dc Dd De Df Dg Dh Di Dj Dk Dl Dm Dn Do Dp Dq Dr Ds Dt Du Dv Dw Dx Dy Dz E0 E1 E2 E3 E4 E5 E6 E7 E8 E9 Ea Eb Ec Ed Ee Ef Eg Eh Ei Ej Ek El Em En Eo : Value) (i : Nat) (en : Bool) (J : Jb) (sv : Value),i ≤ m ∧ Hid (PJ g w1.heap.size w1 J sv wr) ∧ Hid (PosR T (bytes l) i en J) ∧ a_ = ⟨#[u0,u1,(.pointer (some ⟨w0.heap.size,0,none⟩)),u3,u4,(.slice (some ⟨ql,0,none⟩) (m + 1) cpl),(.pointer (some ⟨g,0,none⟩)),(.bool en),(.int .i64 i),u9,A0,A1,A2,A3,A4,A5,A6,A7,A8,A9,Aa,Ab,Ac,Ad,Ae,Af,Ag,Ah,Ai,Aj,Ak,Al,Am,An,Ao,Ap,Aq,Ar,As,At,Au,Av,Aw,Ax,Ay,Az,C0,C1,C2,C3,C4,C5,C6,C7,C8,C9,Ca,Cb,Cc,Cd,Ce,Cf,Cg,Ch,Ci,Cj,Ck,Cl,Cm,Cn,Co,Cp,Cq,Cr,Cs,Ct,Cu,Cv,Cw,Cx,Cy,Cz,D0,D1,D2,D3,D4,D5,D6,D7,D8,D9,Da,Db,Dc,Dd,De,Df,Dg,Dh,Di,Dj,Dk,Dl,Dm,Dn,Do,Dp,Dq,Dr,Ds,Dt,Du,Dv,Dw,Dx,Dy,Dz,E0,E1,E2,E3,E4,E5,E6,E7,E8,E9,Ea,Eb,Ec,Ed,Ee,Ef,Eg,Eh,Ei,Ej,Ek,El,Em,En,Eo],[]⟩
set_option maxHeartbeats 2000000 in
set_option maxRecDepth 1000000 in
theorem rread_any (T : ByteArray) (w0 : World) (hl : LibW w0) :
    Calls Tryz.prog 12 #[.string T] w0 (RDQ T.data.toList w0) := by
  have HL := hidMk hl
  have ht : T.data.toList.length = T.size := rfl
  have HBA := hidMk (Bk.new w0 30 (jobC zeroJb (.slice none 0 0)))
  have HB0 := hidMk (below0 w0 (.cells (jobC zeroJb (.slice none 0 0)) 30))
  clear hl
  go_enter Tryz.func12,Tryz.ntmps12
  by_cases h3 : 300 < T.size
  · have h3' : (300 : Int) < (T.size : Int) := by omega
    have HR := hidMk (show readJ T.data.toList = (zeroJb,0,10) by unfold readJ; rw [if_pos (by omega)])
    clear ht
    go_wp2_with (first | (refine wpList_store_row rfl 30 _ _ rfl w0.heap.size (jobC zeroJb (.slice none 0 0)) rfl rfl 30 (jobC zeroJb (.slice none 0 0)) HBA.out szJob rfl (oneJob _ _ _ _) ?_))
    refine bodyPost_ret (results_row_two Tryz.results12 _ _ _ _ _ (.int .i64 0) (.int .i64 10) rfl rfl rfl (HBA.out.row (jobC zeroJb (.slice none 0 0))) Tryz.underlying30 szJob) rfl ?_
    exact RDQ.zero HR.out (below_setRow HB0.out (Nat.le_refl _) _)
  have h3' : ¬ (300 : Int) < (T.size : Int) := by omega
  have H3 := hidMk (show ¬ 300 < T.data.toList.length by omega)
  have HTZ := hidMk (show T.size ≤ 300 by omega)
  clear ht h3
  go_wp2_with fail
  refine (rsplit_any T 10 (by have := HTZ.out; omega) _).mono ?_
  rintro e wl ⟨l,m,ql,cpl,hm,hbl,hz,hll,hcp,rfl,hss,hql,hb⟩
  have HM := hidMk hm
  have HBL := hidMk hbl
  have HZ := hidMk hz
  have HCP := hidMk hcp
  have HGL := hidMk (HBA.out.below hb HBA.out.lt)
  have HBLW := hidMk (HB0.out.trans (hb.mono HB0.out.size))
  have HSS := hidMk hss
  have HZS := hidMk (show w0.heap.size < wl.heap.size from HGL.out.lt)
  clear hm hbl hz hss hb hql hcp HBA HB0
  have hbj := below0 wl (.cells (jobC zeroJb (.slice none 0 0)) 30)
  have HB1 : Hid (Below w0.heap.size w0 (wl.alloc (.cells (jobC zeroJb (.slice none 0 0)) 30))) := hidMk (HBLW.out.trans (hbj.mono HBLW.out.size))
  have HG2 := hidMk (HGL.out.below hbj HGL.out.lt)
  have HPJ0 : Hid (PJ wl.heap.size (wl.alloc (.cells (jobC zeroJb (.slice none 0 0)) 30)).heap.size (wl.alloc (.cells (jobC zeroJb (.slice none 0 0)) 30)) zeroJb (.slice none 0 0) (wl.alloc (.cells (jobC zeroJb (.slice none 0 0)) 30))) := hidMk ⟨Bk.new wl 30 (jobC zeroJb (.slice none 0 0)),⟨rfl,.inl ⟨rfl,rfl⟩⟩,PB.refl _ _ _,(Bk.new wl 30 (jobC zeroJb (.slice none 0 0))).lt,Nat.le_refl _⟩
  have HROW1 : Hid (ql < wl.heap.size ∧ ∀ k x,l[k]? = some x → (wl.alloc (.cells (jobC zeroJb (.slice none 0 0)) 30)).cell? ⟨ql,k,none⟩ = some (.string x)) := hidMk ⟨HSS.out.1,fun k x hx => (hbj.cell (p := ⟨ql,k,none⟩) HSS.out.1).trans (by have := HSS.out.2 k x hx; rwa [Nat.zero_add] at this)⟩
  clear hbj HSS HGL HBLW
  have HN0 : Hid (((0 : Nat) : Int) = 0) := hidMk rfl
  go_wp2_with fail
  obtain ⟨w1,hw1⟩ : ∃ x,x = wl.alloc (.cells (jobC zeroJb (.slice none 0 0)) 30) := ⟨_,rfl⟩
  obtain ⟨g,hg⟩ : ∃ x,x = wl.heap.size := ⟨_,rfl⟩
  rw [← hw1,← hg] at HPJ0
  rw [← hw1] at HB1 HG2
  rw [← hw1,← hg] at HROW1
  rw [← hg] at HZS
  show Code.wp Tryz.prog _ _ _ (wl.alloc (.cells (jobC zeroJb (.slice none 0 0)) 30))
  rw [← hw1,← hg]
  clear hw1 hg
  have HG0 := hidMk (show w0.heap.size ≤ g from Nat.le_of_lt HZS.out)
  have HG2L := hidMk (show w0.heap.size < w1.heap.size ∧ w0.heap.size ≠ g from ⟨HG2.out.lt,by have := HZS.out; omega⟩)
  have HROW : Hid (True ∧ ∀ {J : Jb} {sv : Value} {wr : World},PJ g w1.heap.size w1 J sv wr → ∀ k x,l[k]? = some x → wr.cell? ⟨ql,k,none⟩ = some (.string x)) := hidMk ⟨trivial,fun h k x hx => (World.cell?_of_block (h.pb.heap ql (Nat.lt_trans HROW1.out.1 h.lt.1) (by have := HROW1.out.1; omega))).trans (HROW1.out.2 k x hx)⟩
  have HLW : Hid (∀ {J : Jb} {sv : Value} {wr : World},PJ g w1.heap.size w1 J sv wr → LibW wr) := hidMk fun h => HL.out.up (h.base HB1.out HG0.out)
  have hmz : m ≤ 2000 := by have := HM.out; omega
  have HLEN := hidMk (show (bytes l).length = m + 1 by rw [List.length_map,HM.out])
  refine wp_loop (RDI T l m ql cpl g w0 w1) (fun a_ _ => m + 1 - (RowKit.intOf (a_.tmps.getD 8 undef)).toNat) ?_ ?_
  · unfold RDI
    exact ⟨_,_,_,_,_,_,_,_,_,_,_,_,_,_,_,_,_,_,_,_,_,_,_,_,_,_,_,_,_,_,_,_,_,_,_,_,_,_,_,_,_,_,_,_,_,_,_,_,_,_,_,_,_,_,_,_,_,_,_,_,_,_,_,_,_,_,_,_,_,_,_,_,_,_,_,_,_,_,_,_,_,_,_,_,_,_,_,_,_,_,_,_,_,_,_,_,_,_,_,_,_,_,_,_,_,_,_,_,_,_,_,_,_,_,_,_,_,_,_,_,_,_,_,_,_,_,_,_,_,_,_,_,_,_,_,_,_,_,0,false,zeroJb,_,Nat.zero_le _,HPJ0,hidMk ⟨Nat.le_refl _,.inl ⟨rfl,rfl,rfl⟩⟩,rfl⟩
  · intro a_ wr hx
    unfold RDI at hx
    obtain ⟨u0,hx⟩ := hx
    obtain ⟨u1,hx⟩ := hx
    obtain ⟨u3,hx⟩ := hx
    obtain ⟨u4,hx⟩ := hx
    obtain ⟨u9,hx⟩ := hx
    obtain ⟨A0,hx⟩ := hx
    obtain ⟨A1,hx⟩ := hx
    obtain ⟨A2,hx⟩ := hx
    obtain ⟨A3,hx⟩ := hx
    obtain ⟨A4,hx⟩ := hx
    obtain ⟨A5,hx⟩ := hx
    obtain ⟨A6,hx⟩ := hx
    obtain ⟨A7,hx⟩ := hx
    obtain ⟨A8,hx⟩ := hx
    obtain ⟨A9,hx⟩ := hx
    obtain ⟨Aa,hx⟩ := hx
    obtain ⟨Ab,hx⟩ := hx
    obtain ⟨Ac,hx⟩ := hx
    obtain ⟨Ad,hx⟩ := hx
    obtain ⟨Ae,hx⟩ := hx
    obtain ⟨Af,hx⟩ := hx
    obtain ⟨Ag,hx⟩ := hx
    obtain ⟨Ah,hx⟩ := hx
    obtain ⟨Ai,hx⟩ := hx
    obtain ⟨Aj,hx⟩ := hx
    obtain ⟨Ak,hx⟩ := hx
    obtain ⟨Al,hx⟩ := hx
    obtain ⟨Am,hx⟩ := hx
    obtain ⟨An,hx⟩ := hx
    obtain ⟨Ao,hx⟩ := hx
    obtain ⟨Ap,hx⟩ := hx
    obtain ⟨Aq,hx⟩ := hx
    obtain ⟨Ar,hx⟩ := hx
    obtain ⟨As,hx⟩ := hx
    obtain ⟨At,hx⟩ := hx
    obtain ⟨Au,hx⟩ := hx
    obtain ⟨Av,hx⟩ := hx
    obtain ⟨Aw,hx⟩ := hx
    obtain ⟨Ax,hx⟩ := hx
    obtain ⟨Ay,hx⟩ := hx
    obtain ⟨Az,hx⟩ := hx
    obtain ⟨C0,hx⟩ := hx
    obtain ⟨C1,hx⟩ := hx
    obtain ⟨C2,hx⟩ := hx
    obtain ⟨C3,hx⟩ := hx
    obtain ⟨C4,hx⟩ := hx
    obtain ⟨C5,hx⟩ := hx
    obtain ⟨C6,hx⟩ := hx
    obtain ⟨C7,hx⟩ := hx
    obtain ⟨C8,hx⟩ := hx
    obtain ⟨C9,hx⟩ := hx
    obtain ⟨Ca,hx⟩ := hx
    obtain ⟨Cb,hx⟩ := hx
    obtain ⟨Cc,hx⟩ := hx
    obtain ⟨Cd,hx⟩ := hx
    obtain ⟨Ce,hx⟩ := hx
    obtain ⟨Cf,hx⟩ := hx
    obtain ⟨Cg,hx⟩ := hx
    obtain ⟨Ch,hx⟩ := hx
    obtain ⟨Ci,hx⟩ := hx
    obtain ⟨Cj,hx⟩ := hx
    obtain ⟨Ck,hx⟩ := hx
    obtain ⟨Cl,hx⟩ := hx
    obtain ⟨Cm,hx⟩ := hx
    obtain ⟨Cn,hx⟩ := hx
    obtain ⟨Co,hx⟩ := hx
    obtain ⟨Cp,hx⟩ := hx
    obtain ⟨Cq,hx⟩ := hx
    obtain ⟨Cr,hx⟩ := hx
    obtain ⟨Cs,hx⟩ := hx
    obtain ⟨Ct,hx⟩ := hx
    obtain ⟨Cu,hx⟩ := hx
    obtain ⟨Cv,hx⟩ := hx
    obtain ⟨Cw,hx⟩ := hx
    obtain ⟨Cx,hx⟩ := hx
    obtain ⟨Cy,hx⟩ := hx
    obtain ⟨Cz,hx⟩ := hx
    obtain ⟨D0,hx⟩ := hx
    obtain ⟨D1,hx⟩ := hx
    obtain ⟨D2,hx⟩ := hx
    obtain ⟨D3,hx⟩ := hx
    obtain ⟨D4,hx⟩ := hx
    obtain ⟨D5,hx⟩ := hx
    obtain ⟨D6,hx⟩ := hx
    obtain ⟨D7,hx⟩ := hx
    obtain ⟨D8,hx⟩ := hx
    obtain ⟨D9,hx⟩ := hx
    obtain ⟨Da,hx⟩ := hx
    obtain ⟨Db,hx⟩ := hx
    obtain ⟨Dc,hx⟩ := hx
    obtain ⟨Dd,hx⟩ := hx
    obtain ⟨De,hx⟩ := hx
    obtain ⟨Df,hx⟩ := hx
    obtain ⟨Dg,hx⟩ := hx
    obtain ⟨Dh,hx⟩ := hx
    obtain ⟨Di,hx⟩ := hx
    obtain ⟨Dj,hx⟩ := hx
    obtain ⟨Dk,hx⟩ := hx
    obtain ⟨Dl,hx⟩ := hx
    obtain ⟨Dm,hx⟩ := hx
    obtain ⟨Dn,hx⟩ := hx
    obtain ⟨Do,hx⟩ := hx
    obtain ⟨Dp,hx⟩ := hx
    obtain ⟨Dq,hx⟩ := hx
    obtain ⟨Dr,hx⟩ := hx
    obtain ⟨Ds,hx⟩ := hx
    obtain ⟨Dt,hx⟩ := hx
    obtain ⟨Du,hx⟩ := hx
    obtain ⟨Dv,hx⟩ := hx
    obtain ⟨Dw,hx⟩ := hx
    obtain ⟨Dx,hx⟩ := hx
    obtain ⟨Dy,hx⟩ := hx
    obtain ⟨Dz,hx⟩ := hx
    obtain ⟨E0,hx⟩ := hx
    obtain ⟨E1,hx⟩ := hx
    obtain ⟨E2,hx⟩ := hx
    obtain ⟨E3,hx⟩ := hx
    obtain ⟨E4,hx⟩ := hx
    obtain ⟨E5,hx⟩ := hx
    obtain ⟨E6,hx⟩ := hx
    obtain ⟨E7,hx⟩ := hx
    obtain ⟨E8,hx⟩ := hx
    obtain ⟨E9,hx⟩ := hx
    obtain ⟨Ea,hx⟩ := hx
    obtain ⟨Eb,hx⟩ := hx
    obtain ⟨Ec,hx⟩ := hx
    obtain ⟨Ed,hx⟩ := hx
    obtain ⟨Ee,hx⟩ := hx
    obtain ⟨Ef,hx⟩ := hx
    obtain ⟨Eg,hx⟩ := hx
    obtain ⟨Eh,hx⟩ := hx
    obtain ⟨Ei,hx⟩ := hx
    obtain ⟨Ej,hx⟩ := hx
    obtain ⟨Ek,hx⟩ := hx
    obtain ⟨El,hx⟩ := hx
    obtain ⟨Em,hx⟩ := hx
    obtain ⟨En,hx⟩ := hx
    obtain ⟨Eo,hx⟩ := hx
    clear HPJ0
    obtain ⟨i,en,J,sv,hi,HP,HPOS,ha⟩ := hx
    subst ha
    have HWY := hidMk (show IntKind.i64.wrap ((i : Int) + 1) = (i : Int) + 1 from IntWalk.i64_in _ (by omega))
    have HWM := hidMk (show IntKind.i64.wrap ((m : Int) + 1 - 1) = (m : Int) + 1 - 1 from IntWalk.i64_in _ (by omega))
    have e1 : ((i + 1 : Nat) : Int) = (i : Int) + 1 := by push_cast; rfl
    have HSL := hidMk HPOS.out.1
    obtain ⟨x,hx⟩ : ∃ x,l[i]? = some x := ⟨l[i]'(by have := HM.out; omega),List.getElem?_eq_getElem _⟩
    have HXI := hidMk hx
    have HXZ := hidMk (show x.size ≤ 300 from Nat.le_trans (HZ.out x (List.mem_of_getElem? hx)) HTZ.out)
    have HCT := hidMk (lines_cut HBL.out.symm (i := i) (x := x.data.toList) (by rw [List.getElem?_map,hx]; rfl))
    rw [HLEN.out] at HCT
    have cx := HROW.out.2 HP.out i x hx
    clear hx
    by_cases hlt : i < m
    · have HC := hidMk (HCT.out.1 (by omega))
      have hi' : (i : Int) < (m : Int) := by omega
      have hwm := HWM.out
      have hmm : (m : Int) + 1 - 1 = (m : Int) := by omega
      rw [hmm] at hwm
      cases en with
      | true =>
        have HPO := hidMk (show parseJ T.data.toList = (J,i + 1) by
          rcases HPOS.out.2 with ⟨h,_⟩ | ⟨h,_⟩ | ⟨h,_⟩ | ⟨_,h⟩
          · cases h
          · cases h
          · cases h
          · rw [h,if_neg]
            intro e
            have := HC.out
            rw [e,Tx.cut_no (by simp)] at this
            exact absurd (congrArg (fun z => z.2.2) this) (by simp))
        have wy := HWY.out
        clear cx
        have HER := hidMk (readJ_line H3.out (show parseJ T.data.toList = (_,i + 1) from HPO.out) (by omega))
        have HBG := hidMk (g2_at HP.out HG2.out HG2L.out)
        have HBL := hidMk (HP.out.base HB1.out HG0.out)
        go_wp2_with (first | (refine wpList_store_row rfl 30 _ _ rfl w0.heap.size (jobC zeroJb (.slice none 0 0)) rfl rfl 30 (jobC zeroJb (.slice none 0 0)) HBG.out szJob rfl (oneJob _ _ _ _) ?_))
        show bodyPost _ _ _ _ _ _
        refine bodyPost_ret (results_row_two Tryz.results12 _ _ _ _ _ (.int .i64 ((i : Int) + 1)) (.int .i64 2) rfl rfl rfl (HBG.out.row (jobC zeroJb (.slice none 0 0))) Tryz.underlying30 szJob) rfl ?_
        have hq_ := RDQ.zero HER.out (below_setRow HBL.out (Nat.le_refl _) (jobC zeroJb (.slice none 0 0)))
        rw [e1] at hq_
        exact hq_
      | false =>
        rcases HPOS.out.2 with ⟨_,hi0,hJ0⟩ | ⟨_,hi1,hps⟩ | ⟨_,hi2,fuel,hfu,hps⟩ | ⟨h,_⟩
        · have HI0 := hidMk (show i + 1 = 1 by omega)
          have HJ0 := hidMk hJ0
          have HPO := hidMk (show parseJ T.data.toList = parseJ (join ((bytes l).drop i) [10]) by rw [hi0,List.drop_zero,HBL.out,Tx.join_split'])
          have hb0 : ((i : Int) == 0) = true := by rw [hi0]; rfl
          clear hi0 hJ0
          go_wp2_with fail
          refine (numbers_any x (bt tongueW) 3 0 (by have := HXZ.out; omega) ⟨by decide,by decide⟩ wr).mono ?_
          rintro e w3 ⟨hb_,⟨hno,rfl⟩ | ⟨xs,v,hsome,rfl,hown⟩⟩
          · have HNO := hidMk (show ap tongueW 3 0 (split x.data.toList [32]) = none from Option.map_eq_none_iff.1 hno)
            have HP2 := hidMk (HP.out.below hb_ (Nat.le_refl _))
            clear hno hb_
            have HER := hidMk (readJ_line H3.out (show parseJ T.data.toList = (_,i + 1) from (by rw [HI0.out]; exact HPO.out.trans (parse0_bad HC.out HNO.out))) (by omega))
            have HBG := hidMk (g2_at HP2.out HG2.out HG2L.out)
            have HBL := hidMk (HP2.out.base HB1.out HG0.out)
            go_wp2_with (first | (refine wpList_store_row rfl 30 _ _ rfl w0.heap.size (jobC zeroJb (.slice none 0 0)) rfl rfl 30 (jobC zeroJb (.slice none 0 0)) HBG.out szJob rfl (oneJob _ _ _ _) ?_))
            show bodyPost _ _ _ _ _ _
            refine bodyPost_ret (results_row_two Tryz.results12 _ _ _ _ _ (.int .i64 ((i : Int) + 1)) (.int .i64 2) rfl rfl rfl (HBG.out.row (jobC zeroJb (.slice none 0 0))) Tryz.underlying30 szJob) rfl ?_
            have hq_ := RDQ.zero HER.out (below_setRow HBL.out (Nat.le_refl _) (jobC zeroJb (.slice none 0 0)))
            rw [e1] at hq_
            exact hq_
          · obtain ⟨⟨ss,ns⟩,hap,hfl⟩ := Option.map_eq_some_iff.1 hsome
            have HAP := hidMk (show ap tongueW 3 0 (split x.data.toList [32]) = some (ss,ns) from hap)
            have hnu := ap_nums HAP.out
            have hwB := HP.out.lt.2
            have HP2 := hidMk (HP.out.below hb_ (Nat.le_refl _))
            have hz2 := hb_.size
            clear hsome hap
            obtain ⟨p,t,r,hss⟩ : ∃ p t r,ss = [p,t,r] := by
              have := hnu.1
              match ss,this with
              | [p,t,r],_ => exact ⟨p,t,r,rfl⟩
            obtain hns : ns = [] := List.length_eq_zero_iff.1 hnu.2
            rw [hss,hns] at HAP
            rw [hss,hns] at hfl
            simp only [fl,List.flatMap_cons,List.flatMap_nil,List.cons_append,List.nil_append,List.append_nil] at hfl
            obtain ⟨q,cp,hv,hq1,hq2,hcell⟩ := int_row hown (by rw [← hfl]; simp)
            rw [← hfl] at hv hcell
            simp only [List.length_cons,List.length_nil,Nat.zero_add,Nat.reduceAdd] at hv
            subst hv
            have HQ := hidMk (show w1.heap.size ≤ q ∧ q < _ from ⟨Nat.le_trans hwB hq1,hq2⟩)
            have HCC := hidMk (show _ = some _ ∧ _ = some _ ∧ _ = some _ ∧ _ = some _ ∧ _ = some _ ∧ _ = some _ from ⟨hcell 0 _ rfl,hcell 1 _ rfl,hcell 2 _ rfl,hcell 3 _ rfl,hcell 4 _ rfl,hcell 5 _ rfl⟩)
            clear hown hfl hq1 hq2 hcell hss hns hnu hz2 hwB hb_
            have hJ := HP2.out
            have hq := HQ.out
            have hC := HCC.out
            go_wp2_with fail
            refine (at_any q 6 cp 0 p.1 p.2 w3 (by omega) (by omega) hq.2 hC.1 hC.2.1).mono ?_
            rintro e wa ⟨rfl,hb_⟩
            have hJ_ := hJ.below hb_ (Nat.le_refl _)
            have hq_ : w1.heap.size ≤ q ∧ q < wa.heap.size := ⟨hq.1,Nat.lt_of_lt_of_le hq.2 hb_.size⟩
            have hC_ : wa.cell? ⟨q,0,none⟩ = some (.int .i64 p.1) ∧ wa.cell? ⟨q,1,none⟩ = some (.int .i64 p.2) ∧ wa.cell? ⟨q,2,none⟩ = some (.int .i64 t.1) ∧ wa.cell? ⟨q,3,none⟩ = some (.int .i64 t.2) ∧ wa.cell? ⟨q,4,none⟩ = some (.int .i64 r.1) ∧ wa.cell? ⟨q,5,none⟩ = some (.int .i64 r.2) := ⟨(hb_.cell (p := ⟨q,0,none⟩) hq.2).trans (hC.1),(hb_.cell (p := ⟨q,1,none⟩) hq.2).trans (hC.2.1),(hb_.cell (p := ⟨q,2,none⟩) hq.2).trans (hC.2.2.1),(hb_.cell (p := ⟨q,3,none⟩) hq.2).trans (hC.2.2.2.1),(hb_.cell (p := ⟨q,4,none⟩) hq.2).trans (hC.2.2.2.2.1),(hb_.cell (p := ⟨q,5,none⟩) hq.2).trans (hC.2.2.2.2.2)⟩
            clear hJ hq hC hb_
            have hJ := hJ_
            have hq := hq_
            have hC := hC_
            clear hJ_ hq_ hC_
            dsimp only
            go_wp2_with fail
            refine (at_any q 6 cp 2 t.1 t.2 wa (by omega) (by omega) hq.2 hC.2.2.1 hC.2.2.2.1).mono ?_
            rintro e wb ⟨rfl,hb_⟩
            have hJ_ := hJ.below hb_ (Nat.le_refl _)
            have hq_ : w1.heap.size ≤ q ∧ q < wb.heap.size := ⟨hq.1,Nat.lt_of_lt_of_le hq.2 hb_.size⟩
            have hC_ : wb.cell? ⟨q,0,none⟩ = some (.int .i64 p.1) ∧ wb.cell? ⟨q,1,none⟩ = some (.int .i64 p.2) ∧ wb.cell? ⟨q,2,none⟩ = some (.int .i64 t.1) ∧ wb.cell? ⟨q,3,none⟩ = some (.int .i64 t.2) ∧ wb.cell? ⟨q,4,none⟩ = some (.int .i64 r.1) ∧ wb.cell? ⟨q,5,none⟩ = some (.int .i64 r.2) := ⟨(hb_.cell (p := ⟨q,0,none⟩) hq.2).trans (hC.1),(hb_.cell (p := ⟨q,1,none⟩) hq.2).trans (hC.2.1),(hb_.cell (p := ⟨q,2,none⟩) hq.2).trans (hC.2.2.1),(hb_.cell (p := ⟨q,3,none⟩) hq.2).trans (hC.2.2.2.1),(hb_.cell (p := ⟨q,4,none⟩) hq.2).trans (hC.2.2.2.2.1),(hb_.cell (p := ⟨q,5,none⟩) hq.2).trans (hC.2.2.2.2.2)⟩
            clear hJ hq hC hb_
            have hJ := hJ_
            have hq := hq_
            have hC := hC_
            clear hJ_ hq_ hC_
            dsimp only
            go_wp2_with fail
            refine (at_any q 6 cp 4 r.1 r.2 wb (by omega) (by omega) hq.2 hC.2.2.2.2.1 hC.2.2.2.2.2).mono ?_
            rintro e wc ⟨rfl,hb_⟩
            have hJ_ := hJ.below hb_ (Nat.le_refl _)
            have hq_ : w1.heap.size ≤ q ∧ q < wc.heap.size := ⟨hq.1,Nat.lt_of_lt_of_le hq.2 hb_.size⟩
            have hC_ : wc.cell? ⟨q,0,none⟩ = some (.int .i64 p.1) ∧ wc.cell? ⟨q,1,none⟩ = some (.int .i64 p.2) ∧ wc.cell? ⟨q,2,none⟩ = some (.int .i64 t.1) ∧ wc.cell? ⟨q,3,none⟩ = some (.int .i64 t.2) ∧ wc.cell? ⟨q,4,none⟩ = some (.int .i64 r.1) ∧ wc.cell? ⟨q,5,none⟩ = some (.int .i64 r.2) := ⟨(hb_.cell (p := ⟨q,0,none⟩) hq.2).trans (hC.1),(hb_.cell (p := ⟨q,1,none⟩) hq.2).trans (hC.2.1),(hb_.cell (p := ⟨q,2,none⟩) hq.2).trans (hC.2.2.1),(hb_.cell (p := ⟨q,3,none⟩) hq.2).trans (hC.2.2.2.1),(hb_.cell (p := ⟨q,4,none⟩) hq.2).trans (hC.2.2.2.2.1),(hb_.cell (p := ⟨q,5,none⟩) hq.2).trans (hC.2.2.2.2.2)⟩
            clear hJ hq hC hb_
            have hJ := hJ_
            have hq := hq_
            have hC := hC_
            clear hJ_ hq_ hC_
            dsimp only
            have HJ := hidMk hJ
            clear hC hq
            have z0 := hJ.bk.at_ 0 _ rfl
            have z1 := hJ.bk.at_ 1 _ rfl
            have z2 := hJ.bk.at_ 2 _ rfl
            have z3 := hJ.bk.at_ 3 _ rfl
            have z4 := hJ.bk.at_ 4 _ rfl
            have z5 := hJ.bk.at_ 5 _ rfl
            have f0 := hJ.bk.free 0
            have f1 := hJ.bk.free 1
            have f2 := hJ.bk.free 2
            have f3 := hJ.bk.free 3
            have f4 := hJ.bk.free 4
            have f5 := hJ.bk.free 5
            clear hJ
            have HP3 := hidMk (((HJ.out.cell2 0 (.int .i64 p.1) (.int .i64 p.2) rfl (J' := { J with p1 := p.1,p2 := p.2 }) rfl).cell2 2 (.int .i64 t.1) (.int .i64 t.2) rfl (J' := { J with p1 := p.1,p2 := p.2,t1 := t.1,t2 := t.2 }) rfl).cell2 4 (.int .i64 r.1) (.int .i64 r.2) rfl (J' := { J with p1 := p.1,p2 := p.2,t1 := t.1,t2 := t.2,r1 := r.1,r2 := r.2 }) rfl)
            have wy := HWY.out
            go_wp2_with fail
            refine ⟨?_,by first | (simp [RowKit.intOf]; done) | (simp [RowKit.intOf]; omega)⟩
            unfold RDI
            exact ⟨_,_,_,_,_,_,_,_,_,_,_,_,_,_,_,_,_,_,_,_,_,_,_,_,_,_,_,_,_,_,_,_,_,_,_,_,_,_,_,_,_,_,_,_,_,_,_,_,_,_,_,_,_,_,_,_,_,_,_,_,_,_,_,_,_,_,_,_,_,_,_,_,_,_,_,_,_,_,_,_,_,_,_,_,_,_,_,_,_,_,_,_,_,_,_,_,_,_,_,_,_,_,_,_,_,_,_,_,_,_,_,_,_,_,_,_,_,_,_,_,_,_,_,_,_,_,_,_,_,_,_,_,_,_,_,_,_,_,i + 1,false,_,_,by omega,HP3,hidMk ⟨Nat.le_succ_of_le HSL.out,.inr (.inl ⟨rfl,HI0.out,by obtain rfl := HJ0.out; exact HPO.out.trans (parse0_go HC.out HAP.out)⟩)⟩,by rw [e1]⟩
        · have HI0 := hidMk (show i + 1 = 2 by omega)
          have HPO := hidMk hps
          have hb0 : ((i : Int) == 0) = false := by rw [hi1]; rfl
          have hb1 : ((i : Int) == 1) = true := by rw [hi1]; rfl
          clear hi1 hps
          go_wp2_with fail
          refine (numbers_any x (bt fileW) 4 1 (by have := HXZ.out; omega) ⟨by decide,by decide⟩ wr).mono ?_
          rintro e w3 ⟨hb_,⟨hno,rfl⟩ | ⟨xs,v,hsome,rfl,hown⟩⟩
          · have HNO := hidMk (show ap fileW 4 1 (split x.data.toList [32]) = none from Option.map_eq_none_iff.1 hno)
            have HP2 := hidMk (HP.out.below hb_ (Nat.le_refl _))
            clear hno hb_
            have HER := hidMk (readJ_line H3.out (show parseJ T.data.toList = (_,i + 1) from (by rw [HI0.out]; exact HPO.out.trans (parse1_bad HC.out HNO.out))) (by omega))
            have HBG := hidMk (g2_at HP2.out HG2.out HG2L.out)
            have HBL := hidMk (HP2.out.base HB1.out HG0.out)
            go_wp2_with (first | (refine wpList_store_row rfl 30 _ _ rfl w0.heap.size (jobC zeroJb (.slice none 0 0)) rfl rfl 30 (jobC zeroJb (.slice none 0 0)) HBG.out szJob rfl (oneJob _ _ _ _) ?_))
            show bodyPost _ _ _ _ _ _
            refine bodyPost_ret (results_row_two Tryz.results12 _ _ _ _ _ (.int .i64 ((i : Int) + 1)) (.int .i64 2) rfl rfl rfl (HBG.out.row (jobC zeroJb (.slice none 0 0))) Tryz.underlying30 szJob) rfl ?_
            have hq_ := RDQ.zero HER.out (below_setRow HBL.out (Nat.le_refl _) (jobC zeroJb (.slice none 0 0)))
            rw [e1] at hq_
            exact hq_
          · obtain ⟨⟨ss,ns⟩,hap,hfl⟩ := Option.map_eq_some_iff.1 hsome
            have HAP := hidMk (show ap fileW 4 1 (split x.data.toList [32]) = some (ss,ns) from hap)
            have hnu := ap_nums HAP.out
            have hwB := HP.out.lt.2
            have HP2 := hidMk (HP.out.below hb_ (Nat.le_refl _))
            have hz2 := hb_.size
            clear hsome hap
            obtain ⟨u,d,x_,y_,hss⟩ : ∃ u d x_ y_,ss = [u,d,x_,y_] := by
              have := hnu.1
              match ss,this with
              | [u,d,x_,y_],_ => exact ⟨u,d,x_,y_,rfl⟩
            obtain ⟨le,hns⟩ : ∃ le,ns = [le] := by
              have := hnu.2
              match ns,this with
              | [le],_ => exact ⟨le,rfl⟩
            rw [hss,hns] at HAP
            rw [hss,hns] at hfl
            simp only [fl,List.flatMap_cons,List.flatMap_nil,List.cons_append,List.nil_append,List.append_nil] at hfl
            obtain ⟨q,cp,hv,hq1,hq2,hcell⟩ := int_row hown (by rw [← hfl]; simp)
            rw [← hfl] at hv hcell
            simp only [List.length_cons,List.length_nil,Nat.zero_add,Nat.reduceAdd] at hv
            subst hv
            have HQ := hidMk (show w1.heap.size ≤ q ∧ q < _ from ⟨Nat.le_trans hwB hq1,hq2⟩)
            have HCC := hidMk (show _ = some _ ∧ _ = some _ ∧ _ = some _ ∧ _ = some _ ∧ _ = some _ ∧ _ = some _ ∧ _ = some _ ∧ _ = some _ ∧ _ = some _ from ⟨hcell 0 _ rfl,hcell 1 _ rfl,hcell 2 _ rfl,hcell 3 _ rfl,hcell 4 _ rfl,hcell 5 _ rfl,hcell 6 _ rfl,hcell 7 _ rfl,hcell 8 _ rfl⟩)
            clear hown hfl hq1 hq2 hcell hss hns hnu hz2 hwB hb_
            go_wp2_with fail
            refine rd26 HP2.out HQ.out HCC.out ?_
            intro w4 h4
            intros
            have HP3 := hidMk h4
            clear h4
            have wy := HWY.out
            go_wp2_with fail
            refine ⟨?_,by first | (simp [RowKit.intOf]; done) | (simp [RowKit.intOf]; omega)⟩
            unfold RDI
            exact ⟨_,_,_,_,_,_,_,_,_,_,_,_,_,_,_,_,_,_,_,_,_,_,_,_,_,_,_,_,_,_,_,_,_,_,_,_,_,_,_,_,_,_,_,_,_,_,_,_,_,_,_,_,_,_,_,_,_,_,_,_,_,_,_,_,_,_,_,_,_,_,_,_,_,_,_,_,_,_,_,_,_,_,_,_,_,_,_,_,_,_,_,_,_,_,_,_,_,_,_,_,_,_,_,_,_,_,_,_,_,_,_,_,_,_,_,_,_,_,_,_,_,_,_,_,_,_,_,_,_,_,_,_,_,_,_,_,_,_,i + 1,false,_,_,by omega,HP3,hidMk ⟨Nat.le_succ_of_le HSL.out,.inr (.inr (.inl ⟨rfl,by have := HI0.out; omega,_,Nat.lt_succ_self _,by rw [show i + 1 + 1 = 3 by have := HI0.out; omega]; exact HPO.out.trans (parse1_go HC.out HAP.out)⟩))⟩,by rw [e1]⟩
        · obtain ⟨fuel,rfl⟩ : ∃ q,fuel = q + 1 := ⟨fuel - 1,by omega⟩
          have HPO := hidMk hps
          have HFU := hidMk hfu
          have HSH := hidMk (cut_shorter HC.out)
          have HI2 := hidMk hi2
          have hb0 : ((i : Int) == 0) = false := by rw [beq_eq_false_iff_ne]; omega
          have hb1 : ((i : Int) == 1) = false := by rw [beq_eq_false_iff_ne]; omega
          clear hfu hps
          go_wp2_with fail
          refine (numbers_any x (bt shiftW) 1 0 (by have := HXZ.out; omega) ⟨by decide,by decide⟩ wr).mono ?_
          rintro e w3 ⟨hb_,⟨hno,rfl⟩ | ⟨xs,v,hsome,rfl,hown⟩⟩
          · have HNO := hidMk (show ap shiftW 1 0 (split x.data.toList [32]) = none from Option.map_eq_none_iff.1 hno)
            have HP2 := hidMk (HP.out.below hb_ (Nat.le_refl _))
            clear hno hb_
            have HNO1 := HNO
            clear HNO
            have cx2 := (HROW.out.2 (HP2.out) ) i x HXI.out
            go_wp2_with fail
            refine (numbers_any x (bt passW) 0 2 (by have := HXZ.out; omega) ⟨by decide,by decide⟩ w3).mono ?_
            rintro e w5 ⟨hb_,⟨hno,rfl⟩ | ⟨xs,v,hsome,rfl,hown⟩⟩
            · have HNO := hidMk (show ap passW 0 2 (split x.data.toList [32]) = none from Option.map_eq_none_iff.1 hno)
              have HP2 := hidMk (HP2.out.below hb_ (Nat.le_refl _))
              clear hno hb_
              have HER := hidMk (readJ_line H3.out (show parseJ T.data.toList = (_,i + 1) from (HPO.out.trans (parse23_bad HC.out HNO1.out HNO.out))) (by omega))
              have HBG := hidMk (g2_at HP2.out HG2.out HG2L.out)
              have HBL := hidMk (HP2.out.base HB1.out HG0.out)
              go_wp2_with (first | (refine wpList_store_row rfl 30 _ _ rfl w0.heap.size (jobC zeroJb (.slice none 0 0)) rfl rfl 30 (jobC zeroJb (.slice none 0 0)) HBG.out szJob rfl (oneJob _ _ _ _) ?_))
              show bodyPost _ _ _ _ _ _
              refine bodyPost_ret (results_row_two Tryz.results12 _ _ _ _ _ (.int .i64 ((i : Int) + 1)) (.int .i64 2) rfl rfl rfl (HBG.out.row (jobC zeroJb (.slice none 0 0))) Tryz.underlying30 szJob) rfl ?_
              have hq_ := RDQ.zero HER.out (below_setRow HBL.out (Nat.le_refl _) (jobC zeroJb (.slice none 0 0)))
              rw [e1] at hq_
              exact hq_
            · obtain ⟨⟨ss,ns⟩,hap,hfl⟩ := Option.map_eq_some_iff.1 hsome
              have HAP := hidMk (show ap passW 0 2 (split x.data.toList [32]) = some (ss,ns) from hap)
              have hnu := ap_nums HAP.out
              have hwB := HP2.out.lt.2
              have HP2 := hidMk (HP2.out.below hb_ (Nat.le_refl _))
              have hz2 := hb_.size
              clear hsome hap
              obtain hss : ss = [] := List.length_eq_zero_iff.1 hnu.1
              obtain ⟨i_,j_,hns⟩ : ∃ i_ j_,ns = [i_,j_] := by
                have := hnu.2
                match ns,this with
                | [i_,j_],_ => exact ⟨i_,j_,rfl⟩
              rw [hss,hns] at HAP
              rw [hss,hns] at hfl
              simp only [fl,List.flatMap_cons,List.flatMap_nil,List.cons_append,List.nil_append,List.append_nil] at hfl
              obtain ⟨q,cp,hv,hq1,hq2,hcell⟩ := int_row hown (by rw [← hfl]; simp)
              rw [← hfl] at hv hcell
              simp only [List.length_cons,List.length_nil,Nat.zero_add,Nat.reduceAdd] at hv
              subst hv
              have HQ := hidMk (show w1.heap.size ≤ q ∧ q < _ from ⟨Nat.le_trans hwB hq1,hq2⟩)
              have HCC := hidMk (show _ = some _ ∧ _ = some _ from ⟨hcell 0 _ rfl,hcell 1 _ rfl⟩)
              clear hown hfl hq1 hq2 hcell hss hns hnu hz2 hwB hb_
              go_wp2_with fail
              refine rd16 HP2.out HQ.out HCC.out ?_
              intro w4 h4
              intros
              have HP3 := hidMk h4
              clear h4
              have wy := HWY.out
              go_wp2_with fail
              refine ⟨?_,by first | (simp [RowKit.intOf]; done) | (simp [RowKit.intOf]; omega)⟩
              unfold RDI
              exact ⟨_,_,_,_,_,_,_,_,_,_,_,_,_,_,_,_,_,_,_,_,_,_,_,_,_,_,_,_,_,_,_,_,_,_,_,_,_,_,_,_,_,_,_,_,_,_,_,_,_,_,_,_,_,_,_,_,_,_,_,_,_,_,_,_,_,_,_,_,_,_,_,_,_,_,_,_,_,_,_,_,_,_,_,_,_,_,_,_,_,_,_,_,_,_,_,_,_,_,_,_,_,_,_,_,_,_,_,_,_,_,_,_,_,_,_,_,_,_,_,_,_,_,_,_,_,_,_,_,_,_,_,_,_,_,_,_,_,_,i + 1,true,_,_,by omega,HP3,hidMk ⟨Nat.le_succ_of_le HSL.out,.inr (.inr (.inr ⟨rfl,HPO.out.trans (parse3_go HC.out (by rw [ap_head HAP.out]; decide) HAP.out)⟩))⟩,by rw [e1]⟩
          · obtain ⟨⟨ss,ns⟩,hap,hfl⟩ := Option.map_eq_some_iff.1 hsome
            have HAP := hidMk (show ap shiftW 1 0 (split x.data.toList [32]) = some (ss,ns) from hap)
            have hnu := ap_nums HAP.out
            have hwB := HP.out.lt.2
            have HP2 := hidMk (HP.out.below hb_ (Nat.le_refl _))
            have hz2 := hb_.size
            clear hsome hap
            obtain ⟨s_,hss⟩ : ∃ s_,ss = [s_] := by
              have := hnu.1
              match ss,this with
              | [s_],_ => exact ⟨s_,rfl⟩
            obtain hns : ns = [] := List.length_eq_zero_iff.1 hnu.2
            rw [hss,hns] at HAP
            rw [hss,hns] at hfl
            simp only [fl,List.flatMap_cons,List.flatMap_nil,List.cons_append,List.nil_append,List.append_nil] at hfl
            obtain ⟨q,cp,hv,hq1,hq2,hcell⟩ := int_row hown (by rw [← hfl]; simp)
            rw [← hfl] at hv hcell
            simp only [List.length_cons,List.length_nil,Nat.zero_add,Nat.reduceAdd] at hv
            subst hv
            have HQ := hidMk (show w1.heap.size ≤ q ∧ q < _ from ⟨Nat.le_trans hwB hq1,hq2⟩)
            have HCC := hidMk (show _ = some _ ∧ _ = some _ from ⟨hcell 0 _ rfl,hcell 1 _ rfl⟩)
            clear hown hfl hq1 hq2 hcell hss hns hnu hz2 hwB hb_
            go_wp2_with fail
            refine rd13 HP2.out HQ.out HCC.out (Nat.le_trans HSL.out (by omega)) ?_
            intro w4 v4 h4
            intros
            have HP3 := hidMk h4
            clear h4
            have wy := HWY.out
            go_wp2_with fail
            refine ⟨?_,by first | (simp [RowKit.intOf]; done) | (simp [RowKit.intOf]; omega)⟩
            unfold RDI
            exact ⟨_,_,_,_,_,_,_,_,_,_,_,_,_,_,_,_,_,_,_,_,_,_,_,_,_,_,_,_,_,_,_,_,_,_,_,_,_,_,_,_,_,_,_,_,_,_,_,_,_,_,_,_,_,_,_,_,_,_,_,_,_,_,_,_,_,_,_,_,_,_,_,_,_,_,_,_,_,_,_,_,_,_,_,_,_,_,_,_,_,_,_,_,_,_,_,_,_,_,_,_,_,_,_,_,_,_,_,_,_,_,_,_,_,_,_,_,_,_,_,_,_,_,_,_,_,_,_,_,_,_,_,_,_,_,_,_,_,_,i + 1,false,_,v4,by omega,HP3,hidMk ⟨by rw [List.length_append,List.length_singleton]; have := HSL.out; omega,.inr (.inr (.inl ⟨rfl,by have := HI2.out; omega,fuel,by have := HFU.out; have := HSH.out; omega,HPO.out.trans (parse2_go HC.out (ap_head HAP.out) HAP.out)⟩))⟩,by rw [e1]⟩
        · cases h
    · obtain rfl : i = m := by omega
      have HX := hidMk (HCT.out.2 rfl)
      have hi' : ¬ (i : Int) < (i : Int) := by omega
      have hmm : (i : Int) + 1 - 1 = (i : Int) := by omega
      have hwm := HWM.out
      rw [hmm] at hwm
      cases en with
      | false =>
        have HPO := hidMk (show ∃ J',parseJ T.data.toList = (J',i + 1) by
          rcases HPOS.out.2 with ⟨_,hi0,hJ0⟩ | ⟨_,hi1,hps⟩ | ⟨_,hi2,fuel,hfu,hps⟩ | ⟨h,_⟩
          · have hj : parseJ T.data.toList = parseJ (join ((bytes l).drop i) [10]) := by rw [hi0,List.drop_zero,HBL.out,Tx.join_split']
            exact ⟨_,by rw [hj,parse0_no HX.out.1,hi0]⟩
          · exact ⟨_,by rw [hps,parse1_no HX.out.1,hi1]⟩
          · obtain ⟨fuel,rfl⟩ : ∃ q,fuel = q + 1 := ⟨fuel - 1,by omega⟩
            exact ⟨_,by rw [hps,parse2_no HX.out.1]⟩
          · cases h)
        obtain ⟨J2,hJ2⟩ := HPO.out
        have HJ2 := hidMk hJ2
        clear hJ2 cx
        have HER := hidMk (readJ_line H3.out (show parseJ T.data.toList = (_,i + 1) from HJ2.out) (by omega))
        have HBG := hidMk (g2_at HP.out HG2.out HG2L.out)
        have HBL := hidMk (HP.out.base HB1.out HG0.out)
        go_wp2_with (first | (refine wpList_store_row rfl 30 _ _ rfl w0.heap.size (jobC zeroJb (.slice none 0 0)) rfl rfl 30 (jobC zeroJb (.slice none 0 0)) HBG.out szJob rfl (oneJob _ _ _ _) ?_))
        show bodyPost _ _ _ _ _ _
        refine bodyPost_ret (results_row_two Tryz.results12 _ _ _ _ _ (.int .i64 ((i : Int) + 1)) (.int .i64 2) rfl rfl rfl (HBG.out.row (jobC zeroJb (.slice none 0 0))) Tryz.underlying30 szJob) rfl ?_
        have hq_ := RDQ.zero HER.out (below_setRow HBL.out (Nat.le_refl _) (jobC zeroJb (.slice none 0 0)))
        rw [e1] at hq_
        exact hq_
      | true =>
        have hp4 : parseJ T.data.toList = (J,if x.data.toList = [] then 0 else i + 1) := by
          rcases HPOS.out.2 with ⟨h,_⟩ | ⟨h,_⟩ | ⟨h,_⟩ | ⟨_,h⟩
          · cases h
          · cases h
          · cases h
          · rw [h,HX.out.2]
        by_cases hxe : x.toList.isEmpty = true
        · have hx0 : x.data.toList = [] := by rw [ByteArray.toList_eq] at hxe; simpa using hxe
          rw [if_pos hx0] at hp4
          have HRE := hidMk (show readJ T.data.toList = if J.check ≠ 0 then (zeroJb,0,J.check) else (J,0,0) by
            unfold readJ
            rw [if_neg H3.out,hp4]
            simp only [Nat.lt_irrefl,if_false])
          have hxb : (!x.toList.isEmpty) = false := by rw [hxe]; rfl
          obtain ⟨a_,c_,hsv,hcl,hrg,hqo⟩ := HP.out.slice
          subst hsv
          have HBK := hidMk HP.out.bk
          have HRG := hidMk hrg
          have HQO := hidMk hqo
          have HCL := hidMk hcl
          have HBG := hidMk (g2_at HP.out HG2.out HG2L.out)
          have HBL := hidMk (HP.out.base HB1.out HG0.out)
          obtain ⟨n,hn⟩ : ∃ n,n = J.sh.length := ⟨_,rfl⟩
          have HN := hidMk hn
          rw [← hn] at HBK
          clear hp4 hx0 hcl hrg hqo hn hxe
          go_wp2_with (first | (refine wpList_load_row rfl 30 _ rfl g rfl _ (jobC J (.slice a_ n c_)) _ _ HBK.out Tryz.underlying30 rfl szJob ?_))
          refine (refCheck_any J a_ n c_ wr HN.out (by have := HCL.out; have := HN.out; omega) HRG.out).mono ?_
          rintro e w5 ⟨rfl,hb5⟩
          have HBK5 := hidMk (HBK.out.below hb5 HBK.out.lt)
          have HBG5 := hidMk (Bk.below HBG.out hb5 (Bk.lt HBG.out))
          have HBL5 := hidMk (HBL.out.trans (hb5.mono HBL.out.size))
          have HRG5 := hidMk (HRG.out.up hb5)
          clear hb5 HBK HBG HBL HRG
          by_cases hc : J.check = 0
          · have HRF := hidMk (HRE.out.trans (if_neg (fun h => h hc)))
            rw [hc]
            clear hc
            go_wp2_with (first | (refine wpList_store_row rfl 30 _ _ rfl w0.heap.size (jobC J (.slice a_ n c_)) rfl rfl 30 (jobC zeroJb (.slice none 0 0)) HBG5.out szJob rfl (oneJob _ _ _ _) ?_) | (refine wpList_load_row rfl 30 _ rfl g rfl _ (jobC J (.slice a_ n c_)) _ _ HBK5.out Tryz.underlying30 rfl szJob ?_))
            refine bodyPost_ret (results_row_two Tryz.results12 _ _ _ _ _ (.int .i64 0) (.int .i64 0) rfl rfl rfl (Bk.row HBG5.out (jobC J (.slice a_ n c_))) Tryz.underlying30 szJob) rfl ?_
            refine ⟨a_,c_,by rw [HRF.out,HN.out]; rfl,by rw [HRF.out]; exact HCL.out.1,?_,below_setRow HBL5.out (Nat.le_refl _) _⟩
            rw [HRF.out]
            intro k z hz
            obtain ⟨q,o,e,hq,c0,c1⟩ := HRG5.out k z hz
            have hne : q ≠ w0.heap.size := by have := HQO.out q o e; have := HG2L.out.1; omega
            have hk := setRow_other w5 w0.heap.size q (jobC J (.slice a_ n c_)) hne
            exact ⟨q,o,e,Nat.lt_of_lt_of_le hq (below_setRow (Below.refl 0 w5) (Nat.zero_le _) (jobC J (.slice a_ n c_))).size,(World.cell?_of_block hk).trans c0,(World.cell?_of_block hk).trans c1⟩
          · have HRF := hidMk (HRE.out.trans (if_pos hc))
            have hc' : (J.check != 0) = true := by simpa using hc
            obtain ⟨ck,hck⟩ : ∃ z,z = J.check := ⟨_,rfl⟩
            rw [← hck] at hc' HRF ⊢
            clear hc hck
            go_wp2_with (first | (refine wpList_store_row rfl 30 _ _ rfl w0.heap.size (jobC zeroJb (.slice none 0 0)) rfl rfl 30 (jobC zeroJb (.slice none 0 0)) HBG5.out szJob rfl (oneJob _ _ _ _) ?_))
            refine bodyPost_ret (results_row_two Tryz.results12 _ _ _ _ _ (.int .i64 0) (.int .i64 ck) rfl rfl rfl (Bk.row HBG5.out (jobC zeroJb (.slice none 0 0))) Tryz.underlying30 szJob) rfl ?_
            exact RDQ.zero HRF.out (below_setRow HBL5.out (Nat.le_refl _) _)
        · have hx0 : ¬ x.data.toList = [] := by rw [ByteArray.toList_eq] at hxe; simpa using hxe
          rw [if_neg hx0] at hp4
          have HPO := hidMk hp4
          have hxb : (!x.toList.isEmpty) = true := by simpa using hxe
          clear hp4 hx0
          have HER := hidMk (readJ_line H3.out (show parseJ T.data.toList = (_,i + 1) from HPO.out) (by omega))
          have HBG := hidMk (g2_at HP.out HG2.out HG2L.out)
          have HBL := hidMk (HP.out.base HB1.out HG0.out)
          go_wp2_with (first | (refine wpList_store_row rfl 30 _ _ rfl w0.heap.size (jobC zeroJb (.slice none 0 0)) rfl rfl 30 (jobC zeroJb (.slice none 0 0)) HBG.out szJob rfl (oneJob _ _ _ _) ?_))
          show bodyPost _ _ _ _ _ _
          refine bodyPost_ret (results_row_two Tryz.results12 _ _ _ _ _ (.int .i64 ((i : Int) + 1)) (.int .i64 2) rfl rfl rfl (HBG.out.row (jobC zeroJb (.slice none 0 0))) Tryz.underlying30 szJob) rfl ?_
          have hq_ := RDQ.zero HER.out (below_setRow HBL.out (Nat.le_refl _) (jobC zeroJb (.slice none 0 0)))
          rw [e1] at hq_
          exact hq_
end Go.Proofs.YtljefjngmembkaaGreatDoor
