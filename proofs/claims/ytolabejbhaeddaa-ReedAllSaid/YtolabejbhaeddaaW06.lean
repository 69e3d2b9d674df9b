/- Part 6 of the proof: JoC, JoD, JoE, PlainF, Worst, StrokeL, FineX. -/
import Derived.Deep.WholeRow
import Derived.Deep.MidRow
import Derived.Maps.AppendAt
import Derived.Test.YtolabejbhaeddaaW05
import Derived.Test.YtolabejbhaeddaaW01
/- JobOf: its loop. -/
namespace Go.Proofs.Ytolabejbhaeddaa
set_option linter.all false
open Go.RowKit
theorem infoR : ∃ i,Try.prog.info? 23 = some i ∧ i.zero = some (.agg #[.int .i64 0,.int .i64 0]) ∧ i.size = 2 ∧ i.bytes = 16 := by
  obtain ⟨i0,hi,hz0,hz1,hz2⟩ := info_parts infoRange
  exact ⟨i0,hi,hz0,hz1,hz2⟩
theorem wp_append_own {P : Program} {o : Oper} {a : Act} {w : World} {K : Act → World → Prop} {Q : Exit → Act → World → Prop} (s x : Operand) (t : TypeId)
    (ho : o.op = .call { callee := .builtin .append,args := #[s,x],argTypes := #[t,t] })
    (base : Nat) (e : TypeId) (i : TypeInfo) (z : Value) (size bytes : Nat) (ht : P.underlying t = some (.slice e)) (hi : P.info? e = some i) (hz : i.zero = some z)
    (hsize : i.size = size) (hby : i.bytes = bytes) (hzs : z.cells.size = size) (hsz : 0 < size)
    (v : Value) (n : Nat) (xs : List Value) (hs : a.eval s = v) (hown : w.ownsRow base e size v n xs)
    (ad : Addr) (m c : Nat) (news : List Value) (hx : a.eval x = .slice (some ad) m c) (hl : news.length = m * size) (hnews : ∀ j u,news[j]? = some u → w.cell? (ad.add j) = some u) (h1 : ∀ u ∈ news,u.oneCell' = true)
    (h63 : n + m ≤ maxLen) (hbytes : (n + m) * bytes ≤ 140737488355328) (hbase : base ≤ w.heap.size)
    (h : ∀ v' w',w'.ownsRow base e size v' (n + m) (xs ++ news) → w.grownBy w' v.ownBlock → (v'.ownBlock = v.ownBlock ∨ v'.ownBlock = some w.heap.size) → K (a.put o.dst v') w') : o.wp P a w K Q := by
  obtain ⟨v',w',hr,h2,h3,h4,h5⟩ := run_append_own_at (P := P) w base t o.type e i z size bytes ht hi hz hsize hby hzs hsz v n xs hown ad m c news hl hnews h1 h63 hbytes hbase
  unfold Oper.wp execOp
  simp only [ho,resolve,invoke,builtin,Sem.run_bind,Sem.run_pure,Result.andThen_ok,List.map_toArray,List.map_cons,List.map_nil,hs,hx,hr]
  exact h _ _ h2 h3 h5
theorem own_of' {w w' : World} {v : Value} {B e s n : Nat} {xs : List Value} (h : w.ownsRow B e s v n xs) (hk : ∀ g,B ≤ g → g < w.heap.size → w'.heap[g]? = w.heap[g]?) : w'.ownsRow B e s v n xs :=
  ⟨h.1,h.2.imp id fun ⟨g,cap,cur,a,b,c,d⟩ => ⟨g,cap,cur,a,b,(hk g b (Array.getElem?_eq_some_iff.1 c).1).trans c,d⟩⟩
theorem own_block' {w : World} {v : Value} {B e s n : Nat} {xs : List Value} (h : w.ownsRow B e s v n xs) (g : Nat) (hg : v.ownBlock = some g) : B ≤ g ∧ g < w.heap.size := by
  rcases h.2 with ⟨rfl,_⟩ | ⟨q,cap,cur,rfl,h1,h2,_⟩
  · cases hg
  · cases hg
    exact ⟨h1,(Array.getElem?_eq_some_iff.1 h2).1⟩
theorem rg_of_own {w : World} {B e n : Nat} {v : Value} {l : List R2} (h : w.ownsRow B e 2 v n (rgCells l)) : ∃ a c,v = .slice a n c ∧ n = l.length ∧ Rg w w.heap.size a l ∧ ∀ q o,a = some ⟨q,o,none⟩ → B ≤ q := by
  have hl := h.1
  rw [rgCells_len] at hl
  rcases h.2 with ⟨rfl,rfl⟩ | ⟨g,cap,cur,rfl,hb,hg,hnc,hcm,hcs,htk⟩
  · have e : l = [] := List.length_eq_zero_iff.1 (by omega)
    subst e
    exact ⟨none,0,rfl,rfl,Rg.nil _ _ _,fun q o h => by cases h⟩
  · refine ⟨some ⟨g,0,none⟩,cap,rfl,by omega,fun k x hk => ⟨g,0,rfl,(Array.getElem?_eq_some_iff.1 hg).1,?_,?_⟩,fun q o h => by cases h; exact hb⟩
    all_goals
      have hkl := (List.getElem?_eq_some_iff.1 hk).1
      obtain ⟨h0,h1⟩ := rgCells_at l k x hk
    · rw [cell_of_row w g (0 + k * 2) cur e (0,0) hg,Nat.zero_add,← Array.getElem?_toList]
      have h2 : (cur.toList.take (n * 2))[k * 2]? = some (.int .i64 x.1) := by rw [htk]; exact h0
      rw [List.getElem?_take_of_lt (by omega)] at h2
      exact h2
    · rw [cell_of_row w g (0 + k * 2 + 1) cur e (0,0) hg,Nat.zero_add,← Array.getElem?_toList]
      have h2 : (cur.toList.take (n * 2))[k * 2 + 1]? = some (.int .i64 x.2) := by rw [htk]; exact h1
      rw [List.getElem?_take_of_lt (by omega)] at h2
      exact h2
/-- The shifts as they grow. -/
structure JL (b B0 : Nat) (w0 : World) (g6 g7 Bs : Nat) (F : Value → Array Value) (sh : List R2) (sv : Value) (w : World) : Prop where
  js : JS b B0 w0 g6 g7 (F sv) w
  own : w.ownsRow Bs 23 2 sv sh.length (rgCells sh)
  lt : b < Bs ∧ g6 < Bs ∧ g7 < Bs ∧ B0 ≤ Bs ∧ Bs ≤ w.heap.size
section
variable {b B0 : Nat} {w0 : World} {g6 g7 Bs : Nat} {F : Value → Array Value} {sh : List R2} {sv : Value} {w w' : World}
theorem JL.pot (h : JL b B0 w0 g6 g7 Bs F sh sv w) (hk : PB b w.heap.size w w') (hp : Pt w' b) : JL b B0 w0 g6 g7 Bs F sh sv w' := by
  obtain ⟨l1,l2,l3,l4,l5⟩ := h.lt
  exact ⟨h.js.pot hk hp,own_of' h.own (fun g hg hlt => hk.heap g hlt (by omega)),l1,l2,l3,l4,Nat.le_trans l5 hk.size⟩
theorem JL.next (h : JL b B0 w0 g6 g7 Bs F sh sv w) (hb : Below w.heap.size w w') : JL b B0 w0 g6 g7 Bs F sh sv w' := h.pot (PB.of hb) (h.js.pt.below hb h.js.pt.lt)
theorem JL.grown {v' : Value} {x : R2} (h : JL b B0 w0 g6 g7 Bs F sh sv w) (hown : w'.ownsRow Bs 23 2 v' (sh.length + 1) (rgCells sh ++ [.int .i64 x.1,.int .i64 x.2])) (hg : w.grownBy w' sv.ownBlock) :
    JS b B0 w0 g6 g7 (F sv) w' ∧ w'.ownsRow Bs 23 2 v' (sh ++ [x]).length (rgCells (sh ++ [x])) ∧ (b < Bs ∧ g6 < Bs ∧ g7 < Bs ∧ B0 ≤ Bs ∧ Bs ≤ w'.heap.size) := by
  obtain ⟨l1,l2,l3,l4,l5⟩ := h.lt
  have hob : ∀ g,sv.ownBlock = some g → Bs ≤ g := fun g hg => (own_block' h.own g hg).1
  have hne : ∀ g,g < Bs → some g ≠ sv.ownBlock := fun g hgl e => by have := hob g e.symm; omega
  obtain ⟨c6,h6,h6s⟩ := h.js.r6
  obtain ⟨n1,n2,n3,n4,n5,n6⟩ := h.js.ne
  refine ⟨⟨h.js.bk.grown hg (hne _ l3),⟨c6,h6.grown hg (hne _ l2),h6s⟩,h.js.pt.grown hg (hne _ l1),⟨hg.os.trans h.js.pb.os,hg.tape.trans h.js.pb.tape,hg.output.trans h.js.pb.output,Nat.le_trans h.js.pb.size hg.size,fun q hq hqb => (hg.block q (Nat.lt_of_lt_of_le hq n6) (hne q (by omega))).trans (h.js.pb.heap q hq hqb)⟩,n1,n2,n3,n4,n5,Nat.le_trans n6 hg.size⟩,?_,l1,l2,l3,l4,Nat.le_trans l5 hg.size⟩
  have e : rgCells (sh ++ [x]) = rgCells sh ++ [.int .i64 x.1,.int .i64 x.2] := by
    clear hown h h6
    induction sh with
    | nil => rfl
    | cons y l ih => show _ :: _ :: rgCells (l ++ [x]) = _; rw [ih]; rfl
  rw [e,List.length_append]
  exact hown
end
set_option maxHeartbeats 1000000 in
set_option maxRecDepth 1000000 in
theorem jopart8 {w0 : World} {b B0 g6 g7 : Nat} {wide loose : Int} {w : World} {wi me p1 p2 t1 t2 r1 r2 u1 u2 d1 d2 x1 x2 y1 y2 le : Int} {u3 u4 u5 u8 u9 A0 A1 A2 A3 A4 A5 A6 A7 A8 A9 Aa Ab Ac Ad Ae Af Ag Ah Ai Aj Ak Al Am An Ao Ap Aq Ar As At Au Av Aw Ax Ay Az C0 C1 C2 C3 C4 C5 C6 C7 C8 C9 Ca Cb Cc Cd Ce Cf Cg Ch Ci Cj Ck Cl Cm Cn Co Cp Cq Cr Cs Ct Cu Cv Cw Cx Cy Cz D0 D1 : Value} (hwd : 0 ≤ wide ∧ wide ≤ 40) (hlo : 0 ≤ loose ∧ loose ≤ 40) (hwi : 1 ≤ wi ∧ wi ≤ 6) (hme : 0 ≤ me ∧ me ≤ 3) (hp : -60 ≤ p1 ∧ p1 ≤ p2 ∧ p2 ≤ 60) (ht : 18 ≤ t1 ∧ t1 ≤ t2 ∧ t2 ≤ 100) (hr : 18 ≤ r1 ∧ r1 ≤ r2 ∧ r2 ≤ 100) (hu : 0 ≤ u1 ∧ u1 ≤ u2 ∧ u2 ≤ 12) (hd : 0 ≤ d1 ∧ d1 ≤ d2 ∧ d2 ≤ 12) (hx : 0 ≤ x1 ∧ x1 ≤ x2 ∧ x2 ≤ 12) (hy : 0 ≤ y1 ∧ y1 ≤ y2 ∧ y2 ≤ 12) (hle : 0 ≤ le ∧ le ≤ 100) (hs : JS b B0 w0 g6 g7 (jobC ⟨p1,p2,t1,t2,r1,r2,u1,u2,d1,d2,x1,x2,y1,y2,le,wi,me,[]⟩ (.slice none 0 0)) w) (hB : B0 = w0.heap.size) : Code.wp Try.prog jorest8 (QJO b w0) ⟨#[(.pointer (some ⟨b,0,none⟩)),(.int .i64 wide),(.int .i64 loose),u3,u4,u5,(.pointer (some ⟨g6,0,none⟩)),(.pointer (some ⟨g7,0,none⟩)),u8,u9,A0,A1,A2,A3,A4,A5,A6,A7,A8,A9,Aa,Ab,Ac,Ad,Ae,Af,Ag,Ah,Ai,Aj,Ak,Al,Am,An,Ao,Ap,Aq,Ar,As,At,Au,Av,Aw,Ax,Ay,Az,C0,C1,C2,C3,C4,C5,C6,C7,C8,C9,Ca,Cb,Cc,Cd,Ce,Cf,Cg,Ch,Ci,Cj,Ck,Cl,Cm,Cn,Co,Cp,Cq,Cr,Cs,Ct,Cu,Cv,Cw,Cx,Cy,Cz,D0,D1],[]⟩ w := by
  rw [jorest8_eq]
  obtain ⟨ti,ha1,ha2,ha3,ha4⟩ := infoR
  have Hi := hidMk ha1
  have Hz := hidMk ha2
  have Hsz := hidMk ha3
  have Hby := hidMk ha4
  clear ha1 ha2 ha3 ha4
  have HS := hidMk hs
  clear hs
  refine wp_seq_k fun K0 hK0 => ?_
  go_wp2_with fail
  refine (uptoP b 3 _ HS.out.pt (by omega)).mono ?_
  rintro e w_ ⟨m,rfl,qm,hk,hp⟩
  have HS' := hidMk (HS.out.pot hk hp)
  clear HS hk hp
  have HS := HS'
  clear HS'

  go_wp2_with fail
  obtain ⟨Bs,hBs⟩ : ∃ B,B = w_.heap.size := ⟨_,rfl⟩
  have hl0 : JL b B0 w0 g6 g7 Bs (fun sv => (jobC ⟨p1,p2,t1,t2,r1,r2,u1,u2,d1,d2,x1,x2,y1,y2,le,wi,me,[]⟩ sv)) [] (.slice none 0 0) w_ := by
    obtain ⟨c6,h6,_⟩ := HS.out.r6
    exact ⟨HS.out,⟨rfl,.inl ⟨rfl,rfl⟩⟩,by rw [hBs]; exact HS.out.pt.lt,by rw [hBs]; exact h6.lt,by rw [hBs]; exact HS.out.bk.lt,by rw [hBs]; exact HS.out.ne.2.2.2.2.2,by rw [hBs]; exact Nat.le_refl _⟩
  have HL := hidMk hl0
  clear hl0 hBs HS
  go_loopw [9] (fun iv wr => ∃ (k : Nat) (j : Int) (sh : List R2) (sv : Value),(j + k = m ∧ 0 ≤ j) ∧ iv = .int .i64 j ∧ sh.length = k ∧ Hid (∀ s ∈ sh,-60 ≤ s.1 ∧ s.1 ≤ s.2 ∧ s.2 ≤ 60) ∧ Hid (JL b B0 w0 g6 g7 Bs (fun sv => (jobC ⟨p1,p2,t1,t2,r1,r2,u1,u2,d1,d2,x1,x2,y1,y2,le,wi,me,[]⟩ sv)) sh sv wr)) (fun iv _ => (intOf iv).toNat)
  case atStart => exact ⟨0,m,[],_,⟨by omega,by omega⟩,rfl,rfl,hidMk (by simp),HL⟩
  case round =>
    obtain ⟨k,j,sh,sv,⟨hj1,hj2⟩,rfl,rfl,HB,HJ⟩ := hrel
    by_cases hlt : 0 < j
    · go_wp2_with fail
      refine region_via (R := fun a_ e_ a' w' => e_ = .normal ∧ ∃ (v74 v75 v76 v77 v78 v79 v80 v81 v82 : Value) (x : R2) (v' : Value),a' = (((((((((a_.put (some 74) v74).put (some 75) v75).put (some 76) v76).put (some 77) v77).put (some 78) v78).put (some 79) v79).put (some 80) v80).put (some 81) v81).put (some 82) v82) ∧ (-60 ≤ x.1 ∧ x.1 ≤ x.2 ∧ x.2 ≤ 60) ∧ JS b B0 w0 g6 g7 (jobC ⟨p1,p2,t1,t2,r1,r2,u1,u2,d1,d2,x1,x2,y1,y2,le,wi,me,[]⟩ v') w' ∧ w'.ownsRow Bs 23 2 v' (sh ++ [x]).length (rgCells (sh ++ [x])) ∧ (b < Bs ∧ g6 < Bs ∧ g7 < Bs ∧ B0 ≤ Bs ∧ Bs ≤ w'.heap.size)) ?_ ?_
      rotate_left
      · rintro e_ a' w' ⟨rfl,v74,v75,v76,v77,v78,v79,v80,v81,v82,x,v',rfl,hx,h1,h2,h3⟩
        simp only [Act.put,aT,aZ,aS]
        have HX := hidMk hx
        have HJ2 := hidMk (show JL b B0 w0 g6 g7 Bs (fun sv => (jobC ⟨p1,p2,t1,t2,r1,r2,u1,u2,d1,d2,x1,x2,y1,y2,le,wi,me,[]⟩ sv)) (sh ++ [x]) v' w' from ⟨h1,h2,h3⟩)
        clear hx h1 h2 h3
        go_wp2_with fail
        go_roundw
        case rel =>
          refine ⟨sh.length + 1,j - 1,sh ++ [x],v',⟨by omega,by omega⟩,by go_num,by rw [List.length_append]; rfl,hidMk (fun s hs => ?_),HJ2⟩
          rcases List.mem_append.1 hs with hs | hs
          · exact HB.out s hs
          · rw [List.mem_singleton] at hs
            subst hs
            exact HX.out
        case measure => simp [intOf]; omega
      have hJ : JL b B0 w0 g6 g7 Bs (fun sv => (jobC ⟨p1,p2,t1,t2,r1,r2,u1,u2,d1,d2,x1,x2,y1,y2,le,wi,me,[]⟩ sv)) sh sv wr.drew := HJ.out.next (Below.refl _ _).drew
      clear HJ
      refine wp_region_held_drew (S := fun _ => True) (by kernel_rfl) trivial (fun hS0 => ?_)
      generalize hWd : wr.drew = wd at hJ ⊢
      clear hWd
      refine wpAnyH_take (i := 0) (v := ?_) rfl (by kernel_rfl) (by kernel_rfl) (by kernel_rfl) (fun _ _ _ h => by cases h.1) (.inl ⟨by rfl,?_⟩) (by assumption) ?_
      rotate_left
      · (intro w' hSw; (try dsimp only at hSw); skip; go_simp <;> with_reducible rfl)
      (try simp only [Act.put,aT,aZ,aS])
      refine wpAnyH_take (i := 2) (v := ?_) rfl (by kernel_rfl) (by kernel_rfl) (by kernel_rfl) (fun _ _ _ h => by cases h.1) (.inl ⟨by rfl,?_⟩) (by assumption) ?_
      rotate_left
      · (intro w' hSw; (try dsimp only at hSw); skip; go_simp <;> with_reducible rfl)
      (try simp only [Act.put,aT,aZ,aS])
      refine wpAnyH_take (i := 3) (v := ?_) rfl (by kernel_rfl) (by kernel_rfl) (by kernel_rfl) (fun _ _ _ h => by cases h.1) (.inl ⟨by rfl,?_⟩) (by assumption) ?_
      rotate_left
      · (intro w' hSw; (try dsimp only at hSw); skip; go_simp <;> with_reducible rfl)
      (try simp only [Act.put,aT,aZ,aS])
      refine wpAnyH_ready (rs := [1,4]) (by kernel_rfl) (by simp) ?_
      refine AllReadyH.cons rfl (fun K hK => ?_) ?_
      · have c15 := hJ.js.bk.at_ 15 sv rfl
        go_simp
        refine hK.out _ _ trivial (fun _ => ?_)
        clear c15
        clear hK K
        (try simp only [Act.put,aT,aZ,aS])
        refine wpAnyH_ready (rs := [4]) (by kernel_rfl) (by simp) ?_
        refine AllReadyH.cons rfl (fun K hK => ?_) ?_
        · go_simp
          go_at_call 17
          refine (withinP b (-3) 3 _ hJ.js.pt (by omega)).mono ?_
          rintro e wx ⟨x0,rfl,hx0,hk,hp⟩
          have hJ_ := hJ.pot hk hp
          clear hp
          clear hJ hk
          have hJ := hJ_
          clear hJ_
          go_wp2_with fail
          refine hK.out _ _ trivial (fun _ => ?_)
          clear hK K
          (try simp only [Act.put,aT,aZ,aS])
          refine wpAnyH_ready (rs := [5]) (by kernel_rfl) (by simp) ?_
          refine AllReadyH.cons rfl (fun K hK => ?_) ?_
          · go_simp
            go_at_call 45
            refine (nearP b x0 (-60) 60 2 _ hJ.js.pt (by omega) (by omega)).mono ?_
            rintro e wy ⟨xa,xb,rfl,hxx,hk,hp⟩
            have hJ_ := hJ.pot hk hp
            clear hp
            clear hJ hk
            have hJ := hJ_
            clear hJ_
            go_wp2_with fail
            refine hK.out _ _ trivial (fun _ => ?_)
            clear hK K
            (try simp only [Act.put,aT,aZ,aS])
            refine wpAnyH_ready (rs := [6]) (by kernel_rfl) (by simp) ?_
            refine AllReadyH.cons rfl (fun K hK => ?_) ?_
            · have hJ_ := hJ.next ((Below.refl _ _).alloc (Nat.le_refl wy.heap.size) (.cells #[.int .i64 xa,.int .i64 xb] 23))
              have hA : Bk (wy.alloc (.cells #[.int .i64 xa,.int .i64 xb] 23)) wy.heap.size 23 #[.int .i64 xa,.int .i64 xb] := Bk.new _ _ _
              go_simp
              show K _ (wy.alloc (.cells #[.int .i64 xa,.int .i64 xb] 23))
              refine hK.out _ _ trivial (fun _ => ?_)
              clear hJ
              have hJ := hJ_
              clear hJ_
              generalize wy.heap.size = gA at hA ⊢
              generalize (wy.alloc (.cells #[.int .i64 xa,.int .i64 xb] 23)) = wz at hA hJ ⊢
              clear hK K
              (try simp only [Act.put,aT,aZ,aS])
              refine wpAnyH_ready (rs := [7]) (by kernel_rfl) (by simp) ?_
              refine AllReadyH.cons rfl (fun K hK => ?_) ?_
              · refine wp_append_own (.tmp 75) (.tmp 80) 28 rfl Bs 23 ti (.agg #[.int .i64 0,.int .i64 0]) 2 16 Try.underlying28 Hi.out Hz.out Hsz.out Hby.out rfl (by decide) sv sh.length (rgCells sh) rfl hJ.own ⟨gA,0,none⟩ 1 1 [.int .i64 xa,.int .i64 xb] rfl rfl (fun j u hu => by rw [Addr.add_mid,Nat.zero_add]; exact hA.at_ j u (by simpa using hu)) (by intro u hu; simp at hu; rcases hu with rfl | rfl <;> rfl) (by unfold maxLen; omega) (by omega) hJ.lt.2.2.2.2 ?_
                intro v' wu own' hg' _
                obtain ⟨qb,cp,rfl⟩ : ∃ qb cp,v' = .slice (some ⟨qb,0,none⟩) (sh.length + 1) cp := by
                  rcases own'.2 with ⟨_,h⟩ | ⟨q,cap,cur,h,_⟩
                  · omega
                  · exact ⟨q,cap,h⟩
                obtain ⟨hq1,hq2,hq3⟩ := hJ.grown (x := (xa,xb)) own' hg'
                refine hK.out _ _ trivial (fun _ => ?_)
                clear hJ hA own' hg'
                clear hK K
                (try simp only [Act.put,aT,aZ,aS])
                refine wpAnyH_take (i := 8) (v := ?_) rfl (by kernel_rfl) (by kernel_rfl) (by kernel_rfl) (fun _ _ _ h => by cases h.1) (.inl ⟨by rfl,?_⟩) (by assumption) ?_
                rotate_left
                · (intro w' hSw; (try dsimp only at hSw); skip; go_simp <;> with_reducible rfl)
                (try simp only [Act.put,aT,aZ,aS])
                refine wpAnyH_ready (rs := [9]) (by kernel_rfl) (by simp) ?_
                refine AllReadyH.cons rfl (fun K hK => ?_) ?_
                · have z15 := hq1.bk.at_ 15 sv rfl
                  have f15 := hq1.bk.free 15
                  have hq4 : JS b B0 w0 g6 g7 (jobC ⟨p1,p2,t1,t2,r1,r2,u1,u2,d1,d2,x1,x2,y1,y2,le,wi,me,[]⟩ (.slice (some ⟨qb,0,none⟩) (sh.length + 1) cp)) (wu.setCell ⟨g7,15,none⟩ (.slice (some ⟨qb,0,none⟩) (sh.length + 1) cp)) := hq1.put 15 (.slice (some ⟨qb,0,none⟩) (sh.length + 1) cp)
                  have hq5 : (wu.setCell ⟨g7,15,none⟩ (.slice (some ⟨qb,0,none⟩) (sh.length + 1) cp)).ownsRow Bs 23 2 (.slice (some ⟨qb,0,none⟩) (sh.length + 1) cp) (sh ++ [(xa,xb)]).length (rgCells (sh ++ [(xa,xb)])) := own_of' hq2 (fun g hg _ => Below.heap_setCell wu ⟨g7,15,none⟩ (.slice (some ⟨qb,0,none⟩) (sh.length + 1) cp) g (by show g ≠ g7; omega))
                  have hsz : wu.heap.size ≤ (wu.setCell ⟨g7,15,none⟩ (.slice (some ⟨qb,0,none⟩) (sh.length + 1) cp)).heap.size := by simp
                  go_simp
                  refine hK.out _ _ trivial (fun _ => ?_)
                  clear hK K
                  (try simp only [Act.put,aT,aZ,aS])
                  refine wpAnyH_done (by kernel_rfl) ?_ _
                  have hxx' : -60 ≤ xa ∧ xa ≤ xb ∧ xb ≤ 60 := by omega
                  exact ⟨rfl,_,_,_,_,_,_,_,_,_,(xa,xb),_,rfl,hxx',hq4,hq5,by obtain ⟨l1,l2,l3,l4,l5⟩ := hq3; exact ⟨l1,l2,l3,l4,Nat.le_trans l5 hsz⟩⟩
                exact AllReadyH.nil
              exact AllReadyH.nil
            exact AllReadyH.nil
          exact AllReadyH.nil
        exact AllReadyH.nil
      refine AllReadyH.cons rfl (fun K hK => ?_) ?_
      · go_simp
        go_at_call 17
        refine (withinP b (-3) 3 _ hJ.js.pt (by omega)).mono ?_
        rintro e wx ⟨x0,rfl,hx0,hk,hp⟩
        have hJ_ := hJ.pot hk hp
        clear hp
        clear hJ hk
        have hJ := hJ_
        clear hJ_
        go_wp2_with fail
        refine hK.out _ _ trivial (fun _ => ?_)
        clear hK K
        (try simp only [Act.put,aT,aZ,aS])
        refine wpAnyH_ready (rs := [1,5]) (by kernel_rfl) (by simp) ?_
        refine AllReadyH.cons rfl (fun K hK => ?_) ?_
        · have c15 := hJ.js.bk.at_ 15 sv rfl
          go_simp
          refine hK.out _ _ trivial (fun _ => ?_)
          clear c15
          clear hK K
          (try simp only [Act.put,aT,aZ,aS])
          refine wpAnyH_ready (rs := [5]) (by kernel_rfl) (by simp) ?_
          refine AllReadyH.cons rfl (fun K hK => ?_) ?_
          · go_simp
            go_at_call 45
            refine (nearP b x0 (-60) 60 2 _ hJ.js.pt (by omega) (by omega)).mono ?_
            rintro e wy ⟨xa,xb,rfl,hxx,hk,hp⟩
            have hJ_ := hJ.pot hk hp
            clear hp
            clear hJ hk
            have hJ := hJ_
            clear hJ_
            go_wp2_with fail
            refine hK.out _ _ trivial (fun _ => ?_)
            clear hK K
            (try simp only [Act.put,aT,aZ,aS])
            refine wpAnyH_ready (rs := [6]) (by kernel_rfl) (by simp) ?_
            refine AllReadyH.cons rfl (fun K hK => ?_) ?_
            · have hJ_ := hJ.next ((Below.refl _ _).alloc (Nat.le_refl wy.heap.size) (.cells #[.int .i64 xa,.int .i64 xb] 23))
              have hA : Bk (wy.alloc (.cells #[.int .i64 xa,.int .i64 xb] 23)) wy.heap.size 23 #[.int .i64 xa,.int .i64 xb] := Bk.new _ _ _
              go_simp
              show K _ (wy.alloc (.cells #[.int .i64 xa,.int .i64 xb] 23))
              refine hK.out _ _ trivial (fun _ => ?_)
              clear hJ
              have hJ := hJ_
              clear hJ_
              generalize wy.heap.size = gA at hA ⊢
              generalize (wy.alloc (.cells #[.int .i64 xa,.int .i64 xb] 23)) = wz at hA hJ ⊢
              clear hK K
              (try simp only [Act.put,aT,aZ,aS])
              refine wpAnyH_ready (rs := [7]) (by kernel_rfl) (by simp) ?_
              refine AllReadyH.cons rfl (fun K hK => ?_) ?_
              · refine wp_append_own (.tmp 75) (.tmp 80) 28 rfl Bs 23 ti (.agg #[.int .i64 0,.int .i64 0]) 2 16 Try.underlying28 Hi.out Hz.out Hsz.out Hby.out rfl (by decide) sv sh.length (rgCells sh) rfl hJ.own ⟨gA,0,none⟩ 1 1 [.int .i64 xa,.int .i64 xb] rfl rfl (fun j u hu => by rw [Addr.add_mid,Nat.zero_add]; exact hA.at_ j u (by simpa using hu)) (by intro u hu; simp at hu; rcases hu with rfl | rfl <;> rfl) (by unfold maxLen; omega) (by omega) hJ.lt.2.2.2.2 ?_
                intro v' wu own' hg' _
                obtain ⟨qb,cp,rfl⟩ : ∃ qb cp,v' = .slice (some ⟨qb,0,none⟩) (sh.length + 1) cp := by
                  rcases own'.2 with ⟨_,h⟩ | ⟨q,cap,cur,h,_⟩
                  · omega
                  · exact ⟨q,cap,h⟩
                obtain ⟨hq1,hq2,hq3⟩ := hJ.grown (x := (xa,xb)) own' hg'
                refine hK.out _ _ trivial (fun _ => ?_)
                clear hJ hA own' hg'
                clear hK K
                (try simp only [Act.put,aT,aZ,aS])
                refine wpAnyH_take (i := 8) (v := ?_) rfl (by kernel_rfl) (by kernel_rfl) (by kernel_rfl) (fun _ _ _ h => by cases h.1) (.inl ⟨by rfl,?_⟩) (by assumption) ?_
                rotate_left
                · (intro w' hSw; (try dsimp only at hSw); skip; go_simp <;> with_reducible rfl)
                (try simp only [Act.put,aT,aZ,aS])
                refine wpAnyH_ready (rs := [9]) (by kernel_rfl) (by simp) ?_
                refine AllReadyH.cons rfl (fun K hK => ?_) ?_
                · have z15 := hq1.bk.at_ 15 sv rfl
                  have f15 := hq1.bk.free 15
                  have hq4 : JS b B0 w0 g6 g7 (jobC ⟨p1,p2,t1,t2,r1,r2,u1,u2,d1,d2,x1,x2,y1,y2,le,wi,me,[]⟩ (.slice (some ⟨qb,0,none⟩) (sh.length + 1) cp)) (wu.setCell ⟨g7,15,none⟩ (.slice (some ⟨qb,0,none⟩) (sh.length + 1) cp)) := hq1.put 15 (.slice (some ⟨qb,0,none⟩) (sh.length + 1) cp)
                  have hq5 : (wu.setCell ⟨g7,15,none⟩ (.slice (some ⟨qb,0,none⟩) (sh.length + 1) cp)).ownsRow Bs 23 2 (.slice (some ⟨qb,0,none⟩) (sh.length + 1) cp) (sh ++ [(xa,xb)]).length (rgCells (sh ++ [(xa,xb)])) := own_of' hq2 (fun g hg _ => Below.heap_setCell wu ⟨g7,15,none⟩ (.slice (some ⟨qb,0,none⟩) (sh.length + 1) cp) g (by show g ≠ g7; omega))
                  have hsz : wu.heap.size ≤ (wu.setCell ⟨g7,15,none⟩ (.slice (some ⟨qb,0,none⟩) (sh.length + 1) cp)).heap.size := by simp
                  go_simp
                  refine hK.out _ _ trivial (fun _ => ?_)
                  clear hK K
                  (try simp only [Act.put,aT,aZ,aS])
                  refine wpAnyH_done (by kernel_rfl) ?_ _
                  have hxx' : -60 ≤ xa ∧ xa ≤ xb ∧ xb ≤ 60 := by omega
                  exact ⟨rfl,_,_,_,_,_,_,_,_,_,(xa,xb),_,rfl,hxx',hq4,hq5,by obtain ⟨l1,l2,l3,l4,l5⟩ := hq3; exact ⟨l1,l2,l3,l4,Nat.le_trans l5 hsz⟩⟩
                exact AllReadyH.nil
              exact AllReadyH.nil
            exact AllReadyH.nil
          exact AllReadyH.nil
        refine AllReadyH.cons rfl (fun K hK => ?_) ?_
        · go_simp
          go_at_call 45
          refine (nearP b x0 (-60) 60 2 _ hJ.js.pt (by omega) (by omega)).mono ?_
          rintro e wy ⟨xa,xb,rfl,hxx,hk,hp⟩
          have hJ_ := hJ.pot hk hp
          clear hp
          clear hJ hk
          have hJ := hJ_
          clear hJ_
          go_wp2_with fail
          refine hK.out _ _ trivial (fun _ => ?_)
          clear hK K
          (try simp only [Act.put,aT,aZ,aS])
          refine wpAnyH_ready (rs := [1,6]) (by kernel_rfl) (by simp) ?_
          refine AllReadyH.cons rfl (fun K hK => ?_) ?_
          · have c15 := hJ.js.bk.at_ 15 sv rfl
            go_simp
            refine hK.out _ _ trivial (fun _ => ?_)
            clear c15
            clear hK K
            (try simp only [Act.put,aT,aZ,aS])
            refine wpAnyH_ready (rs := [6]) (by kernel_rfl) (by simp) ?_
            refine AllReadyH.cons rfl (fun K hK => ?_) ?_
            · have hJ_ := hJ.next ((Below.refl _ _).alloc (Nat.le_refl wy.heap.size) (.cells #[.int .i64 xa,.int .i64 xb] 23))
              have hA : Bk (wy.alloc (.cells #[.int .i64 xa,.int .i64 xb] 23)) wy.heap.size 23 #[.int .i64 xa,.int .i64 xb] := Bk.new _ _ _
              go_simp
              show K _ (wy.alloc (.cells #[.int .i64 xa,.int .i64 xb] 23))
              refine hK.out _ _ trivial (fun _ => ?_)
              clear hJ
              have hJ := hJ_
              clear hJ_
              generalize wy.heap.size = gA at hA ⊢
              generalize (wy.alloc (.cells #[.int .i64 xa,.int .i64 xb] 23)) = wz at hA hJ ⊢
              clear hK K
              (try simp only [Act.put,aT,aZ,aS])
              refine wpAnyH_ready (rs := [7]) (by kernel_rfl) (by simp) ?_
              refine AllReadyH.cons rfl (fun K hK => ?_) ?_
              · refine wp_append_own (.tmp 75) (.tmp 80) 28 rfl Bs 23 ti (.agg #[.int .i64 0,.int .i64 0]) 2 16 Try.underlying28 Hi.out Hz.out Hsz.out Hby.out rfl (by decide) sv sh.length (rgCells sh) rfl hJ.own ⟨gA,0,none⟩ 1 1 [.int .i64 xa,.int .i64 xb] rfl rfl (fun j u hu => by rw [Addr.add_mid,Nat.zero_add]; exact hA.at_ j u (by simpa using hu)) (by intro u hu; simp at hu; rcases hu with rfl | rfl <;> rfl) (by unfold maxLen; omega) (by omega) hJ.lt.2.2.2.2 ?_
                intro v' wu own' hg' _
                obtain ⟨qb,cp,rfl⟩ : ∃ qb cp,v' = .slice (some ⟨qb,0,none⟩) (sh.length + 1) cp := by
                  rcases own'.2 with ⟨_,h⟩ | ⟨q,cap,cur,h,_⟩
                  · omega
                  · exact ⟨q,cap,h⟩
                obtain ⟨hq1,hq2,hq3⟩ := hJ.grown (x := (xa,xb)) own' hg'
                refine hK.out _ _ trivial (fun _ => ?_)
                clear hJ hA own' hg'
                clear hK K
                (try simp only [Act.put,aT,aZ,aS])
                refine wpAnyH_take (i := 8) (v := ?_) rfl (by kernel_rfl) (by kernel_rfl) (by kernel_rfl) (fun _ _ _ h => by cases h.1) (.inl ⟨by rfl,?_⟩) (by assumption) ?_
                rotate_left
                · (intro w' hSw; (try dsimp only at hSw); skip; go_simp <;> with_reducible rfl)
                (try simp only [Act.put,aT,aZ,aS])
                refine wpAnyH_ready (rs := [9]) (by kernel_rfl) (by simp) ?_
                refine AllReadyH.cons rfl (fun K hK => ?_) ?_
                · have z15 := hq1.bk.at_ 15 sv rfl
                  have f15 := hq1.bk.free 15
                  have hq4 : JS b B0 w0 g6 g7 (jobC ⟨p1,p2,t1,t2,r1,r2,u1,u2,d1,d2,x1,x2,y1,y2,le,wi,me,[]⟩ (.slice (some ⟨qb,0,none⟩) (sh.length + 1) cp)) (wu.setCell ⟨g7,15,none⟩ (.slice (some ⟨qb,0,none⟩) (sh.length + 1) cp)) := hq1.put 15 (.slice (some ⟨qb,0,none⟩) (sh.length + 1) cp)
                  have hq5 : (wu.setCell ⟨g7,15,none⟩ (.slice (some ⟨qb,0,none⟩) (sh.length + 1) cp)).ownsRow Bs 23 2 (.slice (some ⟨qb,0,none⟩) (sh.length + 1) cp) (sh ++ [(xa,xb)]).length (rgCells (sh ++ [(xa,xb)])) := own_of' hq2 (fun g hg _ => Below.heap_setCell wu ⟨g7,15,none⟩ (.slice (some ⟨qb,0,none⟩) (sh.length + 1) cp) g (by show g ≠ g7; omega))
                  have hsz : wu.heap.size ≤ (wu.setCell ⟨g7,15,none⟩ (.slice (some ⟨qb,0,none⟩) (sh.length + 1) cp)).heap.size := by simp
                  go_simp
                  refine hK.out _ _ trivial (fun _ => ?_)
                  clear hK K
                  (try simp only [Act.put,aT,aZ,aS])
                  refine wpAnyH_done (by kernel_rfl) ?_ _
                  have hxx' : -60 ≤ xa ∧ xa ≤ xb ∧ xb ≤ 60 := by omega
                  exact ⟨rfl,_,_,_,_,_,_,_,_,_,(xa,xb),_,rfl,hxx',hq4,hq5,by obtain ⟨l1,l2,l3,l4,l5⟩ := hq3; exact ⟨l1,l2,l3,l4,Nat.le_trans l5 hsz⟩⟩
                exact AllReadyH.nil
              exact AllReadyH.nil
            exact AllReadyH.nil
          refine AllReadyH.cons rfl (fun K hK => ?_) ?_
          · have hJ_ := hJ.next ((Below.refl _ _).alloc (Nat.le_refl wy.heap.size) (.cells #[.int .i64 xa,.int .i64 xb] 23))
            have hA : Bk (wy.alloc (.cells #[.int .i64 xa,.int .i64 xb] 23)) wy.heap.size 23 #[.int .i64 xa,.int .i64 xb] := Bk.new _ _ _
            go_simp
            show K _ (wy.alloc (.cells #[.int .i64 xa,.int .i64 xb] 23))
            refine hK.out _ _ trivial (fun _ => ?_)
            clear hJ
            have hJ := hJ_
            clear hJ_
            generalize wy.heap.size = gA at hA ⊢
            generalize (wy.alloc (.cells #[.int .i64 xa,.int .i64 xb] 23)) = wz at hA hJ ⊢
            clear hK K
            (try simp only [Act.put,aT,aZ,aS])
            refine wpAnyH_ready (rs := [1]) (by kernel_rfl) (by simp) ?_
            refine AllReadyH.cons rfl (fun K hK => ?_) ?_
            · have c15 := hJ.js.bk.at_ 15 sv rfl
              go_simp
              refine hK.out _ _ trivial (fun _ => ?_)
              clear c15
              clear hK K
              (try simp only [Act.put,aT,aZ,aS])
              refine wpAnyH_ready (rs := [7]) (by kernel_rfl) (by simp) ?_
              refine AllReadyH.cons rfl (fun K hK => ?_) ?_
              · refine wp_append_own (.tmp 75) (.tmp 80) 28 rfl Bs 23 ti (.agg #[.int .i64 0,.int .i64 0]) 2 16 Try.underlying28 Hi.out Hz.out Hsz.out Hby.out rfl (by decide) sv sh.length (rgCells sh) rfl hJ.own ⟨gA,0,none⟩ 1 1 [.int .i64 xa,.int .i64 xb] rfl rfl (fun j u hu => by rw [Addr.add_mid,Nat.zero_add]; exact hA.at_ j u (by simpa using hu)) (by intro u hu; simp at hu; rcases hu with rfl | rfl <;> rfl) (by unfold maxLen; omega) (by omega) hJ.lt.2.2.2.2 ?_
                intro v' wu own' hg' _
                obtain ⟨qb,cp,rfl⟩ : ∃ qb cp,v' = .slice (some ⟨qb,0,none⟩) (sh.length + 1) cp := by
                  rcases own'.2 with ⟨_,h⟩ | ⟨q,cap,cur,h,_⟩
                  · omega
                  · exact ⟨q,cap,h⟩
                obtain ⟨hq1,hq2,hq3⟩ := hJ.grown (x := (xa,xb)) own' hg'
                refine hK.out _ _ trivial (fun _ => ?_)
                clear hJ hA own' hg'
                clear hK K
                (try simp only [Act.put,aT,aZ,aS])
                refine wpAnyH_take (i := 8) (v := ?_) rfl (by kernel_rfl) (by kernel_rfl) (by kernel_rfl) (fun _ _ _ h => by cases h.1) (.inl ⟨by rfl,?_⟩) (by assumption) ?_
                rotate_left
                · (intro w' hSw; (try dsimp only at hSw); skip; go_simp <;> with_reducible rfl)
                (try simp only [Act.put,aT,aZ,aS])
                refine wpAnyH_ready (rs := [9]) (by kernel_rfl) (by simp) ?_
                refine AllReadyH.cons rfl (fun K hK => ?_) ?_
                · have z15 := hq1.bk.at_ 15 sv rfl
                  have f15 := hq1.bk.free 15
                  have hq4 : JS b B0 w0 g6 g7 (jobC ⟨p1,p2,t1,t2,r1,r2,u1,u2,d1,d2,x1,x2,y1,y2,le,wi,me,[]⟩ (.slice (some ⟨qb,0,none⟩) (sh.length + 1) cp)) (wu.setCell ⟨g7,15,none⟩ (.slice (some ⟨qb,0,none⟩) (sh.length + 1) cp)) := hq1.put 15 (.slice (some ⟨qb,0,none⟩) (sh.length + 1) cp)
                  have hq5 : (wu.setCell ⟨g7,15,none⟩ (.slice (some ⟨qb,0,none⟩) (sh.length + 1) cp)).ownsRow Bs 23 2 (.slice (some ⟨qb,0,none⟩) (sh.length + 1) cp) (sh ++ [(xa,xb)]).length (rgCells (sh ++ [(xa,xb)])) := own_of' hq2 (fun g hg _ => Below.heap_setCell wu ⟨g7,15,none⟩ (.slice (some ⟨qb,0,none⟩) (sh.length + 1) cp) g (by show g ≠ g7; omega))
                  have hsz : wu.heap.size ≤ (wu.setCell ⟨g7,15,none⟩ (.slice (some ⟨qb,0,none⟩) (sh.length + 1) cp)).heap.size := by simp
                  go_simp
                  refine hK.out _ _ trivial (fun _ => ?_)
                  clear hK K
                  (try simp only [Act.put,aT,aZ,aS])
                  refine wpAnyH_done (by kernel_rfl) ?_ _
                  have hxx' : -60 ≤ xa ∧ xa ≤ xb ∧ xb ≤ 60 := by omega
                  exact ⟨rfl,_,_,_,_,_,_,_,_,_,(xa,xb),_,rfl,hxx',hq4,hq5,by obtain ⟨l1,l2,l3,l4,l5⟩ := hq3; exact ⟨l1,l2,l3,l4,Nat.le_trans l5 hsz⟩⟩
                exact AllReadyH.nil
              exact AllReadyH.nil
            exact AllReadyH.nil
          exact AllReadyH.nil
        exact AllReadyH.nil
      exact AllReadyH.nil
    · have hown := HJ.out.own
      obtain ⟨sa,sc,rfl,hsn,hrg,hrb⟩ := rg_of_own hown
      have HOWN := hidMk hown
      clear hown
      have HRG := hidMk hrg
      have HRB := hidMk hrb
      have HSN := hidMk hsn
      clear hrg hrb hsn
      go_wp2_with fail
      exact jopart9 hwd hlo hwi hme hp ht hr hu hd hx hy hle HB.out (by omega) rfl HRG.out (fun q o hq => by have h1 := HRB.out q o hq; have h2 := HJ.out.lt.2.1; omega) HOWN.out ⟨HJ.out.lt.2.2.2.1,HJ.out.lt.2.1⟩ HJ.out.js hB
end Go.Proofs.Ytolabejbhaeddaa
/- JobOf: its beginning. -/
namespace Go.Proofs.Ytolabejbhaeddaa
set_option linter.all false
open Go.RowKit
set_option maxHeartbeats 1000000 in
set_option maxRecDepth 1000000 in
theorem jopart7 {w0 : World} {b B0 g6 g7 : Nat} {wide loose : Int} {w : World} {wi me p1 p2 t1 t2 r1 r2 u1 u2 d1 d2 x1 x2 y1 y2 : Int}  {u3 u4 u5 u8 u9 A0 A1 A2 A3 A4 A5 A6 A7 A8 A9 Aa Ab Ac Ad Ae Af Ag Ah Ai Aj Ak Al Am An Ao Ap Aq Ar As At Au Av Aw Ax Ay Az C0 C1 C2 C3 C4 C5 C6 C7 C8 C9 Ca Cb Cc Cd Ce Cf Cg Ch Ci Cj Ck Cl Cm Cn Co Cp Cq Cr Cs Ct Cu Cv Cw Cx Cy Cz D0 D1 : Value} (hwd : 0 ≤ wide ∧ wide ≤ 40) (hlo : 0 ≤ loose ∧ loose ≤ 40) (hwi : 1 ≤ wi ∧ wi ≤ 6) (hme : 0 ≤ me ∧ me ≤ 3) (hp : -60 ≤ p1 ∧ p1 ≤ p2 ∧ p2 ≤ 60) (ht : 18 ≤ t1 ∧ t1 ≤ t2 ∧ t2 ≤ 100) (hr : 18 ≤ r1 ∧ r1 ≤ r2 ∧ r2 ≤ 100) (hu : 0 ≤ u1 ∧ u1 ≤ u2 ∧ u2 ≤ 12) (hd : 0 ≤ d1 ∧ d1 ≤ d2 ∧ d2 ≤ 12) (hx : 0 ≤ x1 ∧ x1 ≤ x2 ∧ x2 ≤ 12) (hy : 0 ≤ y1 ∧ y1 ≤ y2 ∧ y2 ≤ 12) (hs : JS b B0 w0 g6 g7 (jobC ⟨p1,p2,t1,t2,r1,r2,u1,u2,d1,d2,x1,x2,y1,y2,0,wi,me,[]⟩ (.slice none 0 0)) w) (hB : B0 = w0.heap.size) : Code.wp Try.prog jorest7 (QJO b w0) ⟨#[(.pointer (some ⟨b,0,none⟩)),(.int .i64 wide),(.int .i64 loose),u3,u4,u5,(.pointer (some ⟨g6,0,none⟩)),(.pointer (some ⟨g7,0,none⟩)),u8,u9,A0,A1,A2,A3,A4,A5,A6,A7,A8,A9,Aa,Ab,Ac,Ad,Ae,Af,Ag,Ah,Ai,Aj,Ak,Al,Am,An,Ao,Ap,Aq,Ar,As,At,Au,Av,Aw,Ax,Ay,Az,C0,C1,C2,C3,C4,C5,C6,C7,C8,C9,Ca,Cb,Cc,Cd,Ce,Cf,Cg,Ch,Ci,Cj,Ck,Cl,Cm,Cn,Co,Cp,Cq,Cr,Cs,Ct,Cu,Cv,Cw,Cx,Cy,Cz,D0,D1],[]⟩ w := by
  rw [jorest7_eq]
  have HS := hidMk hs
  clear hs
  go_wp2_with fail
  refine (withinP b (10) 30 _ HS.out.pt (by omega)).mono ?_
  rintro e w_ ⟨le,rfl,qle,hk,hp⟩
  have HS' := hidMk (HS.out.pot hk hp)
  clear HS hk hp
  have HS := HS'
  clear HS'
  have z14 := HS.out.bk.at_ 14 _ rfl
  have f14 := HS.out.bk.free 14
  go_wp2_with fail
  have hsn : JS b B0 w0 g6 g7 (jobC ⟨p1,p2,t1,t2,r1,r2,u1,u2,d1,d2,x1,x2,y1,y2,le,wi,me,[]⟩ (.slice none 0 0)) _ := (HS.out.put 14 (.int .i64 le))
  exact jopart8 (wi := wi) (me := me) (p1 := p1) (p2 := p2) (t1 := t1) (t2 := t2) (r1 := r1) (r2 := r2) (u1 := u1) (u2 := u2) (d1 := d1) (d2 := d2) (x1 := x1) (x2 := x2) (y1 := y1) (y2 := y2) (le := le) hwd hlo hwi hme hp ht hr hu hd hx hy (by omega) hsn hB
set_option maxHeartbeats 1000000 in
set_option maxRecDepth 1000000 in
theorem jopart6 {w0 : World} {b B0 g6 g7 : Nat} {wide loose : Int} {w : World} {wi me p1 p2 t1 t2 r1 r2 u1 u2 d1 d2 : Int}  {u3 u4 u5 u8 u9 A0 A1 A2 A3 A4 A5 A6 A7 A8 A9 Aa Ab Ac Ad Ae Af Ag Ah Ai Aj Ak Al Am An Ao Ap Aq Ar As At Au Av Aw Ax Ay Az C0 C1 C2 C3 C4 C5 C6 C7 C8 C9 Ca Cb Cc Cd Ce Cf Cg Ch Ci Cj Ck Cl Cm Cn Co Cp Cq Cr Cs Ct Cu Cv Cw Cx Cy Cz D0 D1 : Value} (hwd : 0 ≤ wide ∧ wide ≤ 40) (hlo : 0 ≤ loose ∧ loose ≤ 40) (hwi : 1 ≤ wi ∧ wi ≤ 6) (hme : 0 ≤ me ∧ me ≤ 3) (hp : -60 ≤ p1 ∧ p1 ≤ p2 ∧ p2 ≤ 60) (ht : 18 ≤ t1 ∧ t1 ≤ t2 ∧ t2 ≤ 100) (hr : 18 ≤ r1 ∧ r1 ≤ r2 ∧ r2 ≤ 100) (hu : 0 ≤ u1 ∧ u1 ≤ u2 ∧ u2 ≤ 12) (hd : 0 ≤ d1 ∧ d1 ≤ d2 ∧ d2 ≤ 12) (hs : JS b B0 w0 g6 g7 (jobC ⟨p1,p2,t1,t2,r1,r2,u1,u2,d1,d2,0,0,0,0,0,wi,me,[]⟩ (.slice none 0 0)) w) (hB : B0 = w0.heap.size) : Code.wp Try.prog jorest6 (QJO b w0) ⟨#[(.pointer (some ⟨b,0,none⟩)),(.int .i64 wide),(.int .i64 loose),u3,u4,u5,(.pointer (some ⟨g6,0,none⟩)),(.pointer (some ⟨g7,0,none⟩)),u8,u9,A0,A1,A2,A3,A4,A5,A6,A7,A8,A9,Aa,Ab,Ac,Ad,Ae,Af,Ag,Ah,Ai,Aj,Ak,Al,Am,An,Ao,Ap,Aq,Ar,As,At,Au,Av,Aw,Ax,Ay,Az,C0,C1,C2,C3,C4,C5,C6,C7,C8,C9,Ca,Cb,Cc,Cd,Ce,Cf,Cg,Ch,Ci,Cj,Ck,Cl,Cm,Cn,Co,Cp,Cq,Cr,Cs,Ct,Cu,Cv,Cw,Cx,Cy,Cz,D0,D1],[]⟩ w := by
  rw [jorest6_eq]
  have HS := hidMk hs
  clear hs
  go_wp2_with fail
  refine (uptoP b 4 _ HS.out.pt (by omega)).mono ?_
  rintro e w_ ⟨a1,rfl,qa1,hk,hp⟩
  have HS' := hidMk (HS.out.pot hk hp)
  clear HS hk hp
  have HS := HS'
  clear HS'
  go_wp2_with fail
  refine (nearP b a1 (0) 12 1 _ HS.out.pt (by omega) (by omega)).mono ?_
  rintro e w_ ⟨x1,x2,rfl,qx1,hk,hp⟩
  have HS' := hidMk (HS.out.pot hk hp)
  clear HS hk hp
  have HS := HS'
  clear HS'
  go_wp2_with fail
  refine (uptoP b 4 _ HS.out.pt (by omega)).mono ?_
  rintro e w_ ⟨a2,rfl,qa2,hk,hp⟩
  have HS' := hidMk (HS.out.pot hk hp)
  clear HS hk hp
  have HS := HS'
  clear HS'
  go_wp2_with fail
  refine (nearP b a2 (0) 12 1 _ HS.out.pt (by omega) (by omega)).mono ?_
  rintro e w_ ⟨y1,y2,rfl,qy1,hk,hp⟩
  have HS' := hidMk (HS.out.pot hk hp)
  clear HS hk hp
  have HS := HS'
  clear HS'
  have z10 := HS.out.bk.at_ 10 _ rfl
  have f10 := HS.out.bk.free 10
  have z11 := HS.out.bk.at_ 11 _ rfl
  have f11 := HS.out.bk.free 11
  have z12 := HS.out.bk.at_ 12 _ rfl
  have f12 := HS.out.bk.free 12
  have z13 := HS.out.bk.at_ 13 _ rfl
  have f13 := HS.out.bk.free 13
  go_wp2_with fail
  have hsn : JS b B0 w0 g6 g7 (jobC ⟨p1,p2,t1,t2,r1,r2,u1,u2,d1,d2,x1,x2,y1,y2,0,wi,me,[]⟩ (.slice none 0 0)) _ := ((((HS.out.put 10 (.int .i64 x1)).put 11 (.int .i64 x2)).put 12 (.int .i64 y1)).put 13 (.int .i64 y2))
  exact jopart7 (wi := wi) (me := me) (p1 := p1) (p2 := p2) (t1 := t1) (t2 := t2) (r1 := r1) (r2 := r2) (u1 := u1) (u2 := u2) (d1 := d1) (d2 := d2) (x1 := x1) (x2 := x2) (y1 := y1) (y2 := y2) hwd hlo hwi hme hp ht hr hu hd (by omega) (by omega) hsn hB
set_option maxHeartbeats 1000000 in
set_option maxRecDepth 1000000 in
theorem jopart5 {w0 : World} {b B0 g6 g7 : Nat} {wide loose : Int} {w : World} {wi me p1 p2 t1 t2 r1 r2 : Int}  {u3 u4 u5 u8 u9 A0 A1 A2 A3 A4 A5 A6 A7 A8 A9 Aa Ab Ac Ad Ae Af Ag Ah Ai Aj Ak Al Am An Ao Ap Aq Ar As At Au Av Aw Ax Ay Az C0 C1 C2 C3 C4 C5 C6 C7 C8 C9 Ca Cb Cc Cd Ce Cf Cg Ch Ci Cj Ck Cl Cm Cn Co Cp Cq Cr Cs Ct Cu Cv Cw Cx Cy Cz D0 D1 : Value} (hwd : 0 ≤ wide ∧ wide ≤ 40) (hlo : 0 ≤ loose ∧ loose ≤ 40) (hwi : 1 ≤ wi ∧ wi ≤ 6) (hme : 0 ≤ me ∧ me ≤ 3) (hp : -60 ≤ p1 ∧ p1 ≤ p2 ∧ p2 ≤ 60) (ht : 18 ≤ t1 ∧ t1 ≤ t2 ∧ t2 ≤ 100) (hr : 18 ≤ r1 ∧ r1 ≤ r2 ∧ r2 ≤ 100) (hs : JS b B0 w0 g6 g7 (jobC ⟨p1,p2,t1,t2,r1,r2,0,0,0,0,0,0,0,0,0,wi,me,[]⟩ (.slice none 0 0)) w) (hB : B0 = w0.heap.size) : Code.wp Try.prog jorest5 (QJO b w0) ⟨#[(.pointer (some ⟨b,0,none⟩)),(.int .i64 wide),(.int .i64 loose),u3,u4,u5,(.pointer (some ⟨g6,0,none⟩)),(.pointer (some ⟨g7,0,none⟩)),u8,u9,A0,A1,A2,A3,A4,A5,A6,A7,A8,A9,Aa,Ab,Ac,Ad,Ae,Af,Ag,Ah,Ai,Aj,Ak,Al,Am,An,Ao,Ap,Aq,Ar,As,At,Au,Av,Aw,Ax,Ay,Az,C0,C1,C2,C3,C4,C5,C6,C7,C8,C9,Ca,Cb,Cc,Cd,Ce,Cf,Cg,Ch,Ci,Cj,Ck,Cl,Cm,Cn,Co,Cp,Cq,Cr,Cs,Ct,Cu,Cv,Cw,Cx,Cy,Cz,D0,D1],[]⟩ w := by
  rw [jorest5_eq]
  have HS := hidMk hs
  clear hs
  go_wp2_with fail
  refine (withinP b (1) 6 _ HS.out.pt (by omega)).mono ?_
  rintro e w_ ⟨a1,rfl,qa1,hk,hp⟩
  have HS' := hidMk (HS.out.pot hk hp)
  clear HS hk hp
  have HS := HS'
  clear HS'
  go_wp2_with fail
  refine (nearP b a1 (0) 12 loose _ HS.out.pt (by omega) (by omega)).mono ?_
  rintro e w_ ⟨u1,u2,rfl,qu1,hk,hp⟩
  have HS' := hidMk (HS.out.pot hk hp)
  clear HS hk hp
  have HS := HS'
  clear HS'
  go_wp2_with fail
  refine (withinP b (1) 6 _ HS.out.pt (by omega)).mono ?_
  rintro e w_ ⟨a2,rfl,qa2,hk,hp⟩
  have HS' := hidMk (HS.out.pot hk hp)
  clear HS hk hp
  have HS := HS'
  clear HS'
  go_wp2_with fail
  refine (nearP b a2 (0) 12 loose _ HS.out.pt (by omega) (by omega)).mono ?_
  rintro e w_ ⟨d1,d2,rfl,qd1,hk,hp⟩
  have HS' := hidMk (HS.out.pot hk hp)
  clear HS hk hp
  have HS := HS'
  clear HS'
  have z6 := HS.out.bk.at_ 6 _ rfl
  have f6 := HS.out.bk.free 6
  have z7 := HS.out.bk.at_ 7 _ rfl
  have f7 := HS.out.bk.free 7
  have z8 := HS.out.bk.at_ 8 _ rfl
  have f8 := HS.out.bk.free 8
  have z9 := HS.out.bk.at_ 9 _ rfl
  have f9 := HS.out.bk.free 9
  go_wp2_with fail
  have hsn : JS b B0 w0 g6 g7 (jobC ⟨p1,p2,t1,t2,r1,r2,u1,u2,d1,d2,0,0,0,0,0,wi,me,[]⟩ (.slice none 0 0)) _ := ((((HS.out.put 6 (.int .i64 u1)).put 7 (.int .i64 u2)).put 8 (.int .i64 d1)).put 9 (.int .i64 d2))
  exact jopart6 (wi := wi) (me := me) (p1 := p1) (p2 := p2) (t1 := t1) (t2 := t2) (r1 := r1) (r2 := r2) (u1 := u1) (u2 := u2) (d1 := d1) (d2 := d2) hwd hlo hwi hme hp ht hr (by omega) (by omega) hsn hB
set_option maxHeartbeats 1000000 in
set_option maxRecDepth 1000000 in
theorem jopart4 {w0 : World} {b B0 g6 g7 : Nat} {wide loose : Int} {w : World} {wi me p1 p2 : Int}  {u3 u4 u5 u8 u9 A0 A1 A2 A3 A4 A5 A6 A7 A8 A9 Aa Ab Ac Ad Ae Af Ag Ah Ai Aj Ak Al Am An Ao Ap Aq Ar As At Au Av Aw Ax Ay Az C0 C1 C2 C3 C4 C5 C6 C7 C8 C9 Ca Cb Cc Cd Ce Cf Cg Ch Ci Cj Ck Cl Cm Cn Co Cp Cq Cr Cs Ct Cu Cv Cw Cx Cy Cz D0 D1 : Value} (hwd : 0 ≤ wide ∧ wide ≤ 40) (hlo : 0 ≤ loose ∧ loose ≤ 40) (hwi : 1 ≤ wi ∧ wi ≤ 6) (hme : 0 ≤ me ∧ me ≤ 3) (hp : -60 ≤ p1 ∧ p1 ≤ p2 ∧ p2 ≤ 60) (hs : JS b B0 w0 g6 g7 (jobC ⟨p1,p2,0,0,0,0,0,0,0,0,0,0,0,0,0,wi,me,[]⟩ (.slice none 0 0)) w) (hB : B0 = w0.heap.size) : Code.wp Try.prog jorest4 (QJO b w0) ⟨#[(.pointer (some ⟨b,0,none⟩)),(.int .i64 wide),(.int .i64 loose),u3,u4,u5,(.pointer (some ⟨g6,0,none⟩)),(.pointer (some ⟨g7,0,none⟩)),u8,u9,A0,A1,A2,A3,A4,A5,A6,A7,A8,A9,Aa,Ab,Ac,Ad,Ae,Af,Ag,Ah,Ai,Aj,Ak,Al,Am,An,Ao,Ap,Aq,Ar,As,At,Au,Av,Aw,Ax,Ay,Az,C0,C1,C2,C3,C4,C5,C6,C7,C8,C9,Ca,Cb,Cc,Cd,Ce,Cf,Cg,Ch,Ci,Cj,Ck,Cl,Cm,Cn,Co,Cp,Cq,Cr,Cs,Ct,Cu,Cv,Cw,Cx,Cy,Cz,D0,D1],[]⟩ w := by
  rw [jorest4_eq]
  have HS := hidMk hs
  clear hs
  go_wp2_with fail
  refine (withinP b (20) 40 _ HS.out.pt (by omega)).mono ?_
  rintro e w_ ⟨a1,rfl,qa1,hk,hp⟩
  have HS' := hidMk (HS.out.pot hk hp)
  clear HS hk hp
  have HS := HS'
  clear HS'
  go_wp2_with fail
  refine (nearP b a1 (0) 100 2 _ HS.out.pt (by omega) (by omega)).mono ?_
  rintro e w_ ⟨t1,t2,rfl,qt1,hk,hp⟩
  have HS' := hidMk (HS.out.pot hk hp)
  clear HS hk hp
  have HS := HS'
  clear HS'
  go_wp2_with fail
  refine (withinP b (20) 40 _ HS.out.pt (by omega)).mono ?_
  rintro e w_ ⟨a2,rfl,qa2,hk,hp⟩
  have HS' := hidMk (HS.out.pot hk hp)
  clear HS hk hp
  have HS := HS'
  clear HS'
  go_wp2_with fail
  refine (nearP b a2 (0) 100 2 _ HS.out.pt (by omega) (by omega)).mono ?_
  rintro e w_ ⟨r1,r2,rfl,qr1,hk,hp⟩
  have HS' := hidMk (HS.out.pot hk hp)
  clear HS hk hp
  have HS := HS'
  clear HS'
  have z2 := HS.out.bk.at_ 2 _ rfl
  have f2 := HS.out.bk.free 2
  have z3 := HS.out.bk.at_ 3 _ rfl
  have f3 := HS.out.bk.free 3
  have z4 := HS.out.bk.at_ 4 _ rfl
  have f4 := HS.out.bk.free 4
  have z5 := HS.out.bk.at_ 5 _ rfl
  have f5 := HS.out.bk.free 5
  go_wp2_with fail
  have hsn : JS b B0 w0 g6 g7 (jobC ⟨p1,p2,t1,t2,r1,r2,0,0,0,0,0,0,0,0,0,wi,me,[]⟩ (.slice none 0 0)) _ := ((((HS.out.put 2 (.int .i64 t1)).put 3 (.int .i64 t2)).put 4 (.int .i64 r1)).put 5 (.int .i64 r2))
  exact jopart5 (wi := wi) (me := me) (p1 := p1) (p2 := p2) (t1 := t1) (t2 := t2) (r1 := r1) (r2 := r2) hwd hlo hwi hme hp (by omega) (by omega) hsn hB
set_option maxHeartbeats 1000000 in
set_option maxRecDepth 1000000 in
theorem jopart3 {w0 : World} {b B0 g6 g7 : Nat} {wide loose : Int} {w : World} {wi me : Int} {n : Int} {u3 u4 u5 u9 A0 A1 A2 A3 A4 A5 A6 A7 A8 A9 Aa Ab Ac Ad Ae Af Ag Ah Ai Aj Ak Al Am An Ao Ap Aq Ar As At Au Av Aw Ax Ay Az C0 C1 C2 C3 C4 C5 C6 C7 C8 C9 Ca Cb Cc Cd Ce Cf Cg Ch Ci Cj Ck Cl Cm Cn Co Cp Cq Cr Cs Ct Cu Cv Cw Cx Cy Cz D0 D1 : Value} (hwd : 0 ≤ wide ∧ wide ≤ 40) (hlo : 0 ≤ loose ∧ loose ≤ 40) (hwi : 1 ≤ wi ∧ wi ≤ 6) (hme : 0 ≤ me ∧ me ≤ 3) (hs : JS b B0 w0 g6 g7 (jobC ⟨0,0,0,0,0,0,0,0,0,0,0,0,0,0,0,wi,me,[]⟩ (.slice none 0 0)) w) (hn : -16 ≤ n ∧ n ≤ 16) (hB : B0 = w0.heap.size) : Code.wp Try.prog jorest3 (QJO b w0) ⟨#[(.pointer (some ⟨b,0,none⟩)),(.int .i64 wide),(.int .i64 loose),u3,u4,u5,(.pointer (some ⟨g6,0,none⟩)),(.pointer (some ⟨g7,0,none⟩)),(.int .i64 n),u9,A0,A1,A2,A3,A4,A5,A6,A7,A8,A9,Aa,Ab,Ac,Ad,Ae,Af,Ag,Ah,Ai,Aj,Ak,Al,Am,An,Ao,Ap,Aq,Ar,As,At,Au,Av,Aw,Ax,Ay,Az,C0,C1,C2,C3,C4,C5,C6,C7,C8,C9,Ca,Cb,Cc,Cd,Ce,Cf,Cg,Ch,Ci,Cj,Ck,Cl,Cm,Cn,Co,Cp,Cq,Cr,Cs,Ct,Cu,Cv,Cw,Cx,Cy,Cz,D0,D1],[]⟩ w := by
  rw [jorest3_eq]
  have HS := hidMk hs
  clear hs
  go_wp2_with fail
  refine (nearP b n (-60) 60 wide _ HS.out.pt (by omega) (by omega)).mono ?_
  rintro e w_ ⟨p1,p2,rfl,qp1,hk,hp⟩
  have HS' := hidMk (HS.out.pot hk hp)
  clear HS hk hp
  have HS := HS'
  clear HS'
  have z0 := HS.out.bk.at_ 0 _ rfl
  have f0 := HS.out.bk.free 0
  have z1 := HS.out.bk.at_ 1 _ rfl
  have f1 := HS.out.bk.free 1
  go_wp2_with fail
  have hsn : JS b B0 w0 g6 g7 (jobC ⟨p1,p2,0,0,0,0,0,0,0,0,0,0,0,0,0,wi,me,[]⟩ (.slice none 0 0)) _ := ((HS.out.put 0 (.int .i64 p1)).put 1 (.int .i64 p2))
  exact jopart4 (wi := wi) (me := me) (p1 := p1) (p2 := p2) hwd hlo hwi hme (by omega) hsn hB
end Go.Proofs.Ytolabejbhaeddaa
/- JobOf, whatever the width and the looseness. -/
namespace Go.Proofs.Ytolabejbhaeddaa
set_option linter.all false
open Go.RowKit
set_option maxHeartbeats 1000000 in
set_option maxRecDepth 1000000 in
/-- JobOf, whatever the width and the looseness. -/
theorem jobOf_hand (wide loose : Int) (hwd : 0 ≤ wide ∧ wide ≤ 40) (hlo : 0 ≤ loose ∧ loose ≤ 40) : JobOKq wide loose := by
  intro b w hp
  have hlt := hp.lt
  have k0 : PB b w.heap.size w (w.alloc (.cells (jobC ⟨0,0,0,0,0,0,0,0,0,0,0,0,0,0,0,0,0,[]⟩ (.slice none 0 0)) 30)) := (PB.refl _ _ _).alloc (Nat.le_refl _) _
  have p0 := hp.alloc (.cells (jobC ⟨0,0,0,0,0,0,0,0,0,0,0,0,0,0,0,0,0,[]⟩ (.slice none 0 0)) 30)
  have b0 : Bk (w.alloc (.cells (jobC ⟨0,0,0,0,0,0,0,0,0,0,0,0,0,0,0,0,0,[]⟩ (.slice none 0 0)) 30)) w.heap.size 30 (jobC ⟨0,0,0,0,0,0,0,0,0,0,0,0,0,0,0,0,0,[]⟩ (.slice none 0 0)) := Bk.new _ _ _
  have hgb : w.heap.size ≠ b := by omega
  have H0 := hidMk (And.intro k0 (And.intro p0 b0))
  clear k0 p0 b0 hp
  go_enter Try.func10,Try.ntmps10
  show Code.wp Try.prog jobody (QJO b w) _ _
  rw [jobody_eq]
  go_wp2_with fail
  rw [jorest1_eq]
  go_wp2_with fail
  refine (withinP b 1 6 _ H0.out.2.1 (by omega)).mono ?_
  rintro e w1 ⟨wi,rfl,hwi,hk1,hp1⟩
  have H1 := hidMk (show PB b w.heap.size w w1 ∧ Bk w1 w.heap.size 30 (jobC ⟨0,0,0,0,0,0,0,0,0,0,0,0,0,0,0,0,0,[]⟩ (.slice none 0 0)) ∧ Pt w1 b from ⟨H0.out.1.trans hk1 H0.out.1.size,H0.out.2.2.pb hk1 H0.out.2.2.lt hgb,hp1⟩)
  clear H0 hk1 hp1
  go_wp2_with fail
  refine (uptoP b 3 _ H1.out.2.2 (by omega)).mono ?_
  rintro e w2 ⟨m0,rfl,hm0,hk2,hp2⟩
  have H2 := hidMk (show PB b w.heap.size w w2 ∧ Bk w2 w.heap.size 30 (jobC ⟨0,0,0,0,0,0,0,0,0,0,0,0,0,0,0,0,0,[]⟩ (.slice none 0 0)) ∧ Pt w2 b from ⟨H1.out.1.trans hk2 H1.out.1.size,H1.out.2.1.pb hk2 H1.out.2.1.lt hgb,hp2⟩)
  clear H1 hk2 hp2
  go_wp2_with fail
  have hlb := H2.out.2.2.lt
  refine (of3P b w2.heap.size 0 1 m0 3 _ (H2.out.2.2.alloc _) (by omega) (Bk.new _ _ _)).mono ?_
  rintro e w3 ⟨me,rfl,hme,hk3,hp3⟩
  have hme' : 0 ≤ me ∧ me ≤ 3 := by rcases hme with h | h | h <;> omega
  have q2 := H2.out.1.alloc H2.out.1.size (.cells #[.int .i64 0,.int .i64 1,.int .i64 m0] 3)
  have H3 := hidMk (show PB b w.heap.size w w3 ∧ Bk w3 w.heap.size 30 (jobC ⟨0,0,0,0,0,0,0,0,0,0,0,0,0,0,0,0,0,[]⟩ (.slice none 0 0)) ∧ Pt w3 b from ⟨q2.trans hk3 q2.size,(H2.out.2.1.alloc _).pb hk3 (by have := H2.out.2.1.lt; simp; omega) hgb,hp3⟩)
  clear H2 hk3 hp3 hme q2
  go_wp2_with (first | (refine wpList_store_row rfl 30 _ _ rfl w3.heap.size (jobC ⟨0,0,0,0,0,0,0,0,0,0,0,0,0,0,0,wi,me,[]⟩ (.slice none 0 0)) rfl rfl _ _ (Bk.new _ _ _) szJob rfl (oneJob _ _ _ _) ?_; rw [World.setRow_alloc_new]))
  have hl3 := H3.out.2.1.lt
  have hlp := H3.out.2.2.lt
  have hjs : JS b w.heap.size w w.heap.size w3.heap.size (jobC ⟨0,0,0,0,0,0,0,0,0,0,0,0,0,0,0,wi,me,[]⟩ (.slice none 0 0)) (w3.alloc (.cells (jobC ⟨0,0,0,0,0,0,0,0,0,0,0,0,0,0,0,wi,me,[]⟩ (.slice none 0 0)) 30)) :=
    ⟨Bk.new _ _ _,⟨_,H3.out.2.1.alloc _,rfl⟩,H3.out.2.2.alloc _,H3.out.1.alloc H3.out.1.size _,hgb,by omega,by omega,Nat.le_refl _,by omega,by simp; omega⟩
  have HS := hidMk hjs
  clear hjs H3
  generalize hG7 : w3.heap.size = g7 at HS ⊢
  generalize hW3 : (w3.alloc (.cells (jobC ⟨0,0,0,0,0,0,0,0,0,0,0,0,0,0,0,wi,me,[]⟩ (.slice none 0 0)) 30)) = w4 at HS ⊢
  rw [jorest2_eq]
  go_wp2_with fail
  refine (withinP b (-16) 16 _ HS.out.pt (by omega)).mono ?_
  rintro e w5 ⟨n,rfl,hn,hk,hp⟩
  have HS' := hidMk (HS.out.pot hk hp)
  clear HS hk hp
  go_wp2_with fail
  exact jopart3 (wi := wi) (me := me) hwd hlo hwi hme' HS'.out hn rfl
end Go.Proofs.Ytolabejbhaeddaa
/- The contract of reed.Passes on valid jobs. -/
namespace Go.Proofs.Ytolabejbhaeddaa
set_option linter.all false
open Go.RowKit

set_option maxHeartbeats 1000000 in
set_option maxRecDepth 100000 in
theorem passesF_ok (J : Jb) (hc : J.check = 0) (a : Option Addr) (n c : Nat) (w : World) (hn : n = J.sh.length) (hm : n ≤ 9223372036854775807) (h : Rg w w.heap.size a J.sh) :
    Calls Try.prog 30 #[.agg (jobC J (.slice a n c))] w fun e w' => e = .returned (.tuple #[.int .i64 (passI J.wi J.sh J.p1 J.p2),.int .i64 0]) ∧ Below w.heap.size w w' := by
  have Hn : Hid (n = J.sh.length) := hn
  have Hh : Hid (Rg w w.heap.size a J.sh) := h
  have HJ := hidMk ((check_ok hc).inn.mono (by decide : (100 : Int) ≤ 1000))
  have hcb : (J.check != 0) = false := by simp [hc]
  clear hn h hc
  have b0 : Bk (w.alloc (.cells (jobC J (.slice a n c)) 30)) w.heap.size 30 (jobC J (.slice a n c)) := Bk.new w _ _
  have hW : Below w.heap.size w (w.alloc (.cells (jobC J (.slice a n c)) 30)) := (Below.refl _ _).alloc (Nat.le_refl _) _
  go_enter Try.func30,Try.ntmps30
  go_wp2_with (refine wpList_load_row rfl 30 _ rfl w.heap.size rfl _ (jobC J (.slice a n c)) _ _ b0 Try.underlying30 rfl szJob ?_)
  refine (check_any J a n c _ Hn.out hm (Hh.out.up hW)).mono ?_
  rintro e w1 ⟨rfl,hb1⟩
  have hz1 := hb1.size
  simp only [World.size_alloc] at hz1
  have k0 := b0.below hb1 (by simp)
  have hB1 : Below w.heap.size w w1 := hW.trans (hb1.mono (by simp))
  clear hb1 b0 hW
  go_wp2_with (refine wpList_load_row rfl 30 _ rfl w.heap.size rfl _ (jobC J (.slice a n c)) _ _ k0 Try.underlying30 rfl szJob ?_)
  refine (passes_any J a n c _ HJ.out Hn.out (Hh.out.up hB1)).mono ?_
  rintro e w2 ⟨rfl,hb2⟩
  have hB2 : Below w.heap.size w w2 := hB1.trans (hb2.mono (by omega))
  go_wp2
  refine bodyPost_ret (v := .tuple #[.int .i64 (passI J.wi J.sh J.p1 J.p2),.int .i64 0]) (by simp [results,Try.results30,go_sem]) rfl ⟨rfl,hB2⟩
end Go.Proofs.Ytolabejbhaeddaa
/- The contracts of work.worst and of reed.Worst without strokes. -/
namespace Go.Proofs.Ytolabejbhaeddaa
set_option linter.all false
open Go.RowKit

def worstStep (t : Tg) (m : Int) (s : R2) : Int := mx (mx m (-(t.p1 + s.1))) (t.p2 + s.2)
theorem worst_bnd (t : Tg) (ht : -200 ≤ t.p1 ∧ t.p1 ≤ 200 ∧ -200 ≤ t.p2 ∧ t.p2 ≤ 200) : ∀ (l : List R2) (m : Int),(∀ s ∈ l,-60 ≤ s.1 ∧ s.1 ≤ 60 ∧ -60 ≤ s.2 ∧ s.2 ≤ 60) → 0 ≤ m ∧ m ≤ 1000 → 0 ≤ l.foldl (worstStep t) m ∧ l.foldl (worstStep t) m ≤ 1000
  | [],m,_,h => h
  | s :: l,m,hs,h => by
    have h1 := hs s List.mem_cons_self
    refine worst_bnd t ht l _ (fun q hq => hs q (List.mem_cons_of_mem _ hq)) ?_
    unfold worstStep mx
    refine ⟨?_,?_⟩ <;> (repeat' split) <;> omega
theorem worst_snoc (t : Tg) (l : List R2) (s : R2) : (l ++ [s]).foldl (worstStep t) 0 = worstStep t (l.foldl (worstStep t) 0) s := by simp

set_option maxHeartbeats 1000000 in
set_option maxRecDepth 100000 in
theorem worst_any (J : Jb) (a : Option Addr) (n c : Nat) (w : World) (hJ : J.In 200) (hn : n = J.sh.length) (h : Rg w w.heap.size a J.sh) :
    Calls Try.prog 61 #[.agg (jobC J (.slice a n c))] w fun e w' => e = .returned (.int .i64 (worstI J J.tg)) ∧ Below w.heap.size w w' := by
  have hm : n ≤ 4 := by have := hJ.len; omega
  have HJ : Hid (J.In 200) := hJ
  have Hn : Hid (n = J.sh.length) := hn
  have Hh : Hid (Rg w w.heap.size a J.sh) := h
  have p1b := hJ.p1
  have p2b := hJ.p2
  clear hn h hJ
  have b0 : Bk (w.alloc (.cells (jobC J (.slice a n c)) 104)) w.heap.size 104 (jobC J (.slice a n c)) := Bk.new w _ _
  go_enter Try.func61,Try.ntmps61
  go_wp2_with (refine wpList_load_row rfl 30 _ rfl w.heap.size rfl _ (jobC J (.slice a n c)) _ _ b0 Try.underlying30 rfl szJob ?_)
  refine (conditions_any J a n c _ Hn.out hm (Hh.out.up ((Below.refl _ _).alloc (Nat.le_refl _) _))).mono ?_
  rintro e w1 ⟨a',c',rfl,hrg,hb⟩
  have hz := hb.size
  simp only [World.size_alloc] at hz
  have k0 := b0.below hb (by simp)
  have HB0 : Hid (Below w.heap.size w w1) := ((Below.refl _ _).alloc (Nat.le_refl _) _).trans (hb.mono (by simp))
  have HR : Hid (Rg w1 w1.heap.size a' (conds J.sh)) := hrg
  clear b0 hb hrg
  obtain ⟨hc1,hc2⟩ := conds_len J.sh HJ.out.len
  obtain ⟨m,Hm⟩ : ∃ m,Hid (m = (conds J.sh).length) := ⟨_,rfl⟩
  rw [← Hm.out] at hc1 hc2 ⊢
  go_wp2_with fail
  go_loopw [3,11] (fun v i wr => ∃ k : Nat,k ≤ m ∧ i = .int .i64 k ∧ v = .int .i64 (((conds J.sh).take k).foldl (worstStep J.tg) 0) ∧ Below w1.heap.size w1 wr) (fun _ i _ => m - (intOf i).toNat)
  case atStart => exact ⟨0,Nat.zero_le _,rfl,rfl,Below.refl _ _⟩
  case round =>
    obtain ⟨k,hk,rfl,rfl,hB⟩ := hrel
    have hs := hB.size
    have hl1 := k0.lt
    have q0 := k0.below hB (by omega)
    have hl2 := q0.lt
    have d0 := q0.at_ 0 _ rfl
    have d1 := q0.at_ 1 _ rfl
    by_cases hlt : k < m
    · have hkl : k < (conds J.sh).length := by rw [← Hm.out]; exact hlt
      obtain ⟨b,off,rfl,hbl,e0,e1⟩ := HR.out k (conds J.sh)[k] (List.getElem?_eq_getElem hkl)
      replace e0 := (hB.cell (p := ⟨b,off + k * 2,none⟩) hbl).trans e0
      replace e1 := (hB.cell (p := ⟨b,off + k * 2 + 1,none⟩) hbl).trans e1
      have hbl' : b < wr.heap.size := by omega
      obtain ⟨s1,s2,s3,s4⟩ := conds_in J.sh HJ.out.sh _ (List.getElem_mem hkl)
      obtain ⟨s,Hs⟩ : ∃ s,Hid (s = (conds J.sh)[k]) := ⟨_,hidMk rfl⟩
      obtain ⟨M,HM⟩ : ∃ M,Hid (M = ((conds J.sh).take k).foldl (worstStep J.tg) 0) := ⟨_,hidMk rfl⟩
      have hM := worst_bnd J.tg ⟨p1b.1,p1b.2,p2b.1,p2b.2⟩ ((conds J.sh).take k) 0 (fun q hq => conds_in J.sh HJ.out.sh q (List.mem_of_mem_take hq)) (by decide)
      rw [← HM.out] at hM ⊢
      rw [← Hs.out] at s1 s2 s3 s4 e0 e1
      go_wp2_with (go_at_call 87; refine (sum_any _ _ _ _ _ ⟨by omega,by omega,by omega,by omega,by omega,by omega,by omega,by omega⟩).mono ?_; rintro e w2 ⟨rfl,hb2⟩)
      go_roundw
      case rel =>
        refine ⟨k + 1,by omega,by go_num,?_,?_⟩
        · rw [take_snoc _ k hkl,worst_snoc,← HM.out,← Hs.out]
          rfl
        · exact ((hB.alloc (by omega) _).trans (hb2.mono (by simp; omega))).alloc (by have := hb2.size; simp at this; omega) _
      case measure => simp [intOf]; omega
    · obtain rfl : k = m := by omega
      go_wp2
      go_ret
      refine ⟨?_,HB0.out.trans (hB.mono (by omega))⟩
      have e : (conds J.sh).take k = conds J.sh := by rw [Hm.out]; exact List.take_length
      rw [e]
      rfl
end Go.Proofs.Ytolabejbhaeddaa
/- The contracts of reed.Worst and reed.Spoiled on valid jobs and strokes. -/
namespace Go.Proofs.Ytolabejbhaeddaa
set_option linter.all false
open Go.RowKit
theorem filed_ok {J : Jb} {l : List Int} (h : filedE J l = 0) : J.check = 0 ∧ l.length ≤ 6 := by
  unfold filedE at h
  by_cases h0 : J.check = 0
  · rw [if_pos h0] at h
    refine ⟨h0,?_⟩
    unfold strokesE at h
    by_cases h6 : 6 < l.length
    · rw [if_pos h6] at h; omega
    · omega
  · rw [if_neg h0] at h; exact absurd h h0
theorem filed_in {J : Jb} {l : List Int} (h : filedE J l = 0) : (J.setTg (afterS J J.tg l)).In 200 := by
  obtain ⟨h0,h6⟩ := filed_ok h
  have hin := (check_ok h0).inn
  have h1 := afterS_in J (hin.mono (by decide)) l J.tg 100 hin.tg
  exact (hin.mono (by decide : (100 : Int) ≤ 200)).setTg (h1.mono (by omega))
set_option maxHeartbeats 1000000 in
set_option maxRecDepth 100000 in
theorem worstL_ok (J : Jb) (l : List Int) (hc : filedE J l = 0) (a : Option Addr) (n c : Nat) (b : Option Addr) (m d : Nat) (w : World) (hn : n = J.sh.length) (hm : n ≤ 9223372036854775807) (h : Rg w w.heap.size a J.sh)
    (hmn : m = l.length) (hmm : m ≤ 9223372036854775807) (hl : Is w w.heap.size b l) :
    Calls Try.prog 26 #[.agg (jobC J (.slice a n c)),.slice b m d] w fun e w' => e = .returned (.tuple #[.int .i64 (worstI (J.setTg (afterS J J.tg l)) (afterS J J.tg l)),.int .i64 0]) ∧ Below w.heap.size w w' := by
  have Hn : Hid (n = J.sh.length) := hn
  have Hh : Hid (Rg w w.heap.size a J.sh) := h
  have Hm : Hid (m = l.length) := hmn
  have Hl : Hid (Is w w.heap.size b l) := hl
  have HJ := hidMk (filed_in hc)
  have Hf := hidMk hc
  clear hn h hc hmn hl
  have b0 : Bk (w.alloc (.cells (jobC J (.slice a n c)) 30)) w.heap.size 30 (jobC J (.slice a n c)) := Bk.new w _ _
  have hW : Below w.heap.size w (w.alloc (.cells (jobC J (.slice a n c)) 30)) := (Below.refl _ _).alloc (Nat.le_refl _) _
  go_enter Try.func26,Try.ntmps26
  go_wp2_with (refine wpList_load_row rfl 30 _ rfl w.heap.size rfl _ (jobC J (.slice a n c)) _ _ b0 Try.underlying30 rfl szJob ?_)
  refine (filed_any J a n c b m d l _ Hn.out hm (Hh.out.up hW) Hm.out hmm (Hl.out.up hW)).mono ?_
  rintro e w1 ⟨he,hb1⟩
  rw [if_pos Hf.out] at he
  subst he
  have hz1 := hb1.size
  simp only [World.size_alloc] at hz1
  have hB1 : Below w.heap.size w w1 := hW.trans (hb1.mono (by simp))
  clear hb1 b0 hW
  obtain ⟨T,hT⟩ : ∃ T,afterS J J.tg l = T := ⟨_,rfl⟩
  have HJ' : Hid ((J.setTg T).In 200) := by have := HJ.out; rw [hT] at this; exact this
  have HT := hidMk hT
  rw [hT]
  clear HJ hT
  go_wp2_with (first | (refine wpList_store_row rfl 104 _ _ rfl w1.heap.size (jobC (J.setTg T) (.slice a n c)) rfl rfl _ _ (Bk.new _ _ _) szWork rfl (oneJob _ _ _ _) ?_; rw [World.setRow_alloc_new]) | (refine wpList_load_row rfl 104 _ rfl w1.heap.size rfl _ (jobC (J.setTg T) (.slice a n c)) _ _ (Bk.new _ _ _) Try.underlying104 rfl szWork ?_))
  refine (worst_any (J.setTg T) a n c _ HJ'.out Hn.out (Hh.out.up (hB1.alloc (by omega) _))).mono ?_
  rintro e w2 ⟨rfl,hb2⟩
  have hB2 : Below w.heap.size w w2 := (hB1.alloc (by omega) _).trans (hb2.mono (by simp; omega))
  go_wp2
  refine bodyPost_ret (v := .tuple #[.int .i64 (worstI (J.setTg T) T),.int .i64 0]) (by simp [results,Try.results26,go_sem]; rfl) rfl ⟨by rw [HT.out],hB2⟩
set_option maxHeartbeats 1000000 in
set_option maxRecDepth 100000 in
theorem spoiledL_ok (J : Jb) (l : List Int) (hc : filedE J l = 0) (a : Option Addr) (n c : Nat) (b : Option Addr) (m d : Nat) (w : World) (hn : n = J.sh.length) (hm : n ≤ 9223372036854775807) (h : Rg w w.heap.size a J.sh)
    (hmn : m = l.length) (hmm : m ≤ 9223372036854775807) (hl : Is w w.heap.size b l) :
    Calls Try.prog 27 #[.agg (jobC J (.slice a n c)),.slice b m d] w fun e w' => e = .returned (.tuple #[.int .i64 (spoilI J.le (afterS J J.tg l)),.int .i64 0]) ∧ Below w.heap.size w w' := by
  have Hn : Hid (n = J.sh.length) := hn
  have Hh : Hid (Rg w w.heap.size a J.sh) := h
  have Hm : Hid (m = l.length) := hmn
  have Hl : Hid (Is w w.heap.size b l) := hl
  have Hf := hidMk hc
  clear hn h hc hmn hl
  have b0 : Bk (w.alloc (.cells (jobC J (.slice a n c)) 30)) w.heap.size 30 (jobC J (.slice a n c)) := Bk.new w _ _
  have hW : Below w.heap.size w (w.alloc (.cells (jobC J (.slice a n c)) 30)) := (Below.refl _ _).alloc (Nat.le_refl _) _
  go_enter Try.func27,Try.ntmps27
  go_wp2_with (refine wpList_load_row rfl 30 _ rfl w.heap.size rfl _ (jobC J (.slice a n c)) _ _ b0 Try.underlying30 rfl szJob ?_)
  refine (filed_any J a n c b m d l _ Hn.out hm (Hh.out.up hW) Hm.out hmm (Hl.out.up hW)).mono ?_
  rintro e w1 ⟨he,hb1⟩
  rw [if_pos Hf.out] at he
  subst he
  have hz1 := hb1.size
  simp only [World.size_alloc] at hz1
  have hB1 : Below w.heap.size w w1 := hW.trans (hb1.mono (by simp))
  clear hb1 b0 hW
  obtain ⟨T,hT⟩ : ∃ T,afterS J J.tg l = T := ⟨_,rfl⟩
  have HT := hidMk hT
  rw [hT]
  clear hT
  go_wp2_with (first | (refine wpList_store_row rfl 104 _ _ rfl w1.heap.size (jobC (J.setTg T) (.slice a n c)) rfl rfl _ _ (Bk.new _ _ _) szWork rfl (oneJob _ _ _ _) ?_; rw [World.setRow_alloc_new]) | (refine wpList_load_row rfl 104 _ rfl w1.heap.size rfl _ (jobC (J.setTg T) (.slice a n c)) _ _ (Bk.new _ _ _) Try.underlying104 rfl szWork ?_))
  refine (spoiled_any (J.setTg T) (.slice a n c) _).mono ?_
  rintro e w2 ⟨rfl,rfl⟩
  have hB2 := (hB1.alloc (B := w.heap.size) (by omega) (.cells (jobC (J.setTg T) (.slice a n c)) 104)).alloc (by simp; omega) (.cells (jobC (J.setTg T) (.slice a n c)) 104)
  go_wp2
  refine bodyPost_ret (v := .tuple #[.int .i64 (spoilI J.le T),.int .i64 0]) (by simp [results,Try.results27,go_sem]; rfl) rfl ⟨by rw [HT.out],hB2⟩
end Go.Proofs.Ytolabejbhaeddaa
/- The contract of reed.Fine on any jobs and strokes, from that of work.fine. -/
namespace Go.Proofs.Ytolabejbhaeddaa
set_option linter.all false
open Go.RowKit
/-- What work.fine is held to. -/
def FineOK : Prop := ∀ (J : Jb) (a : Option Addr) (n c : Nat) (w : World),J.In 1000 → n = J.sh.length → Rg w w.heap.size a J.sh → Calls Try.prog 63 #[.agg (jobC J (.slice a n c))] w fun e w' => e = .returned (.int .i64 (fineI J J.tg)) ∧ Below w.heap.size w w'
set_option maxHeartbeats 1000000 in
set_option maxRecDepth 100000 in
theorem fineL_ok (hfine : FineOK) (J : Jb) (l : List Int) (hc : filedE J l = 0) (a : Option Addr) (n c : Nat) (b : Option Addr) (m d : Nat) (w : World) (hn : n = J.sh.length) (hm : n ≤ 9223372036854775807) (h : Rg w w.heap.size a J.sh)
    (hmn : m = l.length) (hmm : m ≤ 9223372036854775807) (hl : Is w w.heap.size b l) :
    Calls Try.prog 28 #[.agg (jobC J (.slice a n c)),.slice b m d] w fun e w' => e = .returned (.tuple #[.int .i64 (fineI (J.setTg (afterS J J.tg l)) (afterS J J.tg l)),.int .i64 0]) ∧ Below w.heap.size w w' := by
  have Hn : Hid (n = J.sh.length) := hn
  have Hh : Hid (Rg w w.heap.size a J.sh) := h
  have Hm : Hid (m = l.length) := hmn
  have Hl : Hid (Is w w.heap.size b l) := hl
  have HJ := hidMk (filed_in hc)
  have Hf := hidMk hc
  have Hfine := hidMk hfine
  clear hn h hc hmn hl hfine
  have b0 : Bk (w.alloc (.cells (jobC J (.slice a n c)) 30)) w.heap.size 30 (jobC J (.slice a n c)) := Bk.new w _ _
  have hW : Below w.heap.size w (w.alloc (.cells (jobC J (.slice a n c)) 30)) := (Below.refl _ _).alloc (Nat.le_refl _) _
  go_enter Try.func28,Try.ntmps28
  go_wp2_with (refine wpList_load_row rfl 30 _ rfl w.heap.size rfl _ (jobC J (.slice a n c)) _ _ b0 Try.underlying30 rfl szJob ?_)
  refine (filed_any J a n c b m d l _ Hn.out hm (Hh.out.up hW) Hm.out hmm (Hl.out.up hW)).mono ?_
  rintro e w1 ⟨he,hb1⟩
  rw [if_pos Hf.out] at he
  subst he
  have hz1 := hb1.size
  simp only [World.size_alloc] at hz1
  have hB1 : Below w.heap.size w w1 := hW.trans (hb1.mono (by simp))
  clear hb1 b0 hW
  obtain ⟨T,hT⟩ : ∃ T,afterS J J.tg l = T := ⟨_,rfl⟩
  have HJ' : Hid ((J.setTg T).In 200) := by have := HJ.out; rw [hT] at this; exact this
  have HT := hidMk hT
  rw [hT]
  clear HJ hT
  go_wp2_with (first | (refine wpList_store_row rfl 104 _ _ rfl w1.heap.size (jobC (J.setTg T) (.slice a n c)) rfl rfl _ _ (Bk.new _ _ _) szWork rfl (oneJob _ _ _ _) ?_; rw [World.setRow_alloc_new]) | (refine wpList_load_row rfl 104 _ rfl w1.heap.size rfl _ (jobC (J.setTg T) (.slice a n c)) _ _ (Bk.new _ _ _) Try.underlying104 rfl szWork ?_))
  refine (Hfine.out (J.setTg T) a n c _ (HJ'.out.mono (by decide)) Hn.out (Hh.out.up (hB1.alloc (by omega) _))).mono ?_
  rintro e w2 ⟨rfl,hb2⟩
  have hB2 : Below w.heap.size w w2 := (hB1.alloc (by omega) _).trans (hb2.mono (by simp; omega))
  go_wp2
  refine bodyPost_ret (v := .tuple #[.int .i64 (fineI (J.setTg T) T),.int .i64 0]) (by simp [results,Try.results28,go_sem]; rfl) rfl ⟨by rw [HT.out],hB2⟩
end Go.Proofs.Ytolabejbhaeddaa
