/- Part 17 of the proof: JoC, TxO. -/
import Derived.Deep.WholeRow
import Derived.Deep.MidRow
import Derived.Maps.AppendAt
import Derived.Test.YtljefjngmembkaaGreatDoorW16
import Derived.Test.YtljefjngmembkaaGreatDoorW13
import Derived.Test.YtljefjngmembkaaGreatDoorW15
/- JobOf: its loop. -/
namespace Go.Proofs.YtljefjngmembkaaGreatDoor
set_option linter.all false
open Go.RowKit
theorem infoR : ∃ i,Tryz.prog.info? 23 = some i ∧ i.zero = some (.agg #[.int .i64 0,.int .i64 0]) ∧ i.size = 2 ∧ i.bytes = 16 := by
  obtain ⟨i0,hi,hz0,hz1,hz2⟩ := info_parts infoRange
  exact ⟨i0,hi,hz0,hz1,hz2⟩
theorem wp_append_own {P : Program} {o : Oper} {a : Act} {w : World} {K : Act → World → Prop} {Q : Exit → Act → World → Prop} (s x : Operand) (t : TypeId)
    (ho : o.op = .call { callee := .builtin .append,args := #[s,x],argTypes := #[t,t] })
    (base : Nat) (e : TypeId) (i : TypeInfo) (z : Value) (size bytes : Nat) (ht : P.underlying t = some (.slice e)) (hi : P.info? e = some i) (hz : i.zero = some z)
    (hsize : i.size = size) (hby : i.bytes = bytes) (hzs : z.cells.size = size) (hsz : 0 < size)
    (v : Value) (n : Nat) (xs : List Value) (hs : a.eval s = v) (hown : w.ownsRow base e size v n xs)
    (ad : Addr) (m c : Nat) (news : List Value) (hx : a.eval x = .slice (some ad) m c) (hl : news.length = m * size) (hnews : ∀ j u,news[j]? = some u → w.cell? (ad.add j) = some u) (h1 : ∀ u ∈ news,u.oneCell' = true)
    (h63 : n + m ≤ maxLen) (hbytes : (n + m) * bytes ≤ 140737488355328) (hbase : base ≤ w.heap.size)
    (h : ∀ v' w',w'.ownsRow base e size v' (n + m) (xs ++ news) → w.grownBy w' v.ownBlock → (v'.ownBlock = v.ownBlock ∨ v'.ownBlock = some w.heap.size) → K (a.put o.dst v') w') : o.wp P a w K Q := by
  obtain ⟨v',w',hr,h2,h3,h4,h5⟩ := run_append_own_at (P := P) w base t o.type e i z size bytes ht hi hz hsize hby hzs hsz v n xs hown ad m c news hl hnews h1 h63 hbytes hbase
  unfold Oper.wp execOp
  simp only [ho,resolve,invoke,builtin,Sem.run_bind,Sem.run_pure,Result.andThen_ok,List.map_toArray,List.map_cons,List.map_nil,hs,hx,hr]
  exact h _ _ h2 h3 h5
theorem own_of' {w w' : World} {v : Value} {B e s n : Nat} {xs : List Value} (h : w.ownsRow B e s v n xs) (hk : ∀ g,B ≤ g → g < w.heap.size → w'.heap[g]? = w.heap[g]?) : w'.ownsRow B e s v n xs :=
  ⟨h.1,h.2.imp id fun ⟨g,cap,cur,a,b,c,d⟩ => ⟨g,cap,cur,a,b,(hk g b (Array.getElem?_eq_some_iff.1 c).1).trans c,d⟩⟩
theorem own_block' {w : World} {v : Value} {B e s n : Nat} {xs : List Value} (h : w.ownsRow B e s v n xs) (g : Nat) (hg : v.ownBlock = some g) : B ≤ g ∧ g < w.heap.size := by
  rcases h.2 with ⟨rfl,_⟩ | ⟨q,cap,cur,rfl,h1,h2,_⟩
  · cases hg
  · cases hg
    exact ⟨h1,(Array.getElem?_eq_some_iff.1 h2).1⟩
theorem rg_of_own {w : World} {B e n : Nat} {v : Value} {l : List R2} (h : w.ownsRow B e 2 v n (rgCells l)) : ∃ a c,v = .slice a n c ∧ n = l.length ∧ Rg w w.heap.size a l ∧ ∀ q o,a = some ⟨q,o,none⟩ → B ≤ q := by
  have hl := h.1
  rw [rgCells_len] at hl
  rcases h.2 with ⟨rfl,rfl⟩ | ⟨g,cap,cur,rfl,hb,hg,hnc,hcm,hcs,htk⟩
  · have e : l = [] := List.length_eq_zero_iff.1 (by omega)
    subst e
    exact ⟨none,0,rfl,rfl,Rg.nil _ _ _,fun q o h => by cases h⟩
  · refine ⟨some ⟨g,0,none⟩,cap,rfl,by omega,fun k x hk => ⟨g,0,rfl,(Array.getElem?_eq_some_iff.1 hg).1,?_,?_⟩,fun q o h => by cases h; exact hb⟩
    all_goals
      have hkl := (List.getElem?_eq_some_iff.1 hk).1
      obtain ⟨h0,h1⟩ := rgCells_at l k x hk
    · rw [cell_of_row w g (0 + k * 2) cur e (0,0) hg,Nat.zero_add,← Array.getElem?_toList]
      have h2 : (cur.toList.take (n * 2))[k * 2]? = some (.int .i64 x.1) := by rw [htk]; exact h0
      rw [List.getElem?_take_of_lt (by omega)] at h2
      exact h2
    · rw [cell_of_row w g (0 + k * 2 + 1) cur e (0,0) hg,Nat.zero_add,← Array.getElem?_toList]
      have h2 : (cur.toList.take (n * 2))[k * 2 + 1]? = some (.int .i64 x.2) := by rw [htk]; exact h1
      rw [List.getElem?_take_of_lt (by omega)] at h2
      exact h2
/-- The shifts as they grow. -/
structure JL (b B0 : Nat) (w0 : World) (g6 g7 Bs : Nat) (F : Value → Array Value) (sh : List R2) (sv : Value) (w : World) : Prop where
  js : JS b B0 w0 g6 g7 (F sv) w
  own : w.ownsRow Bs 23 2 sv sh.length (rgCells sh)
  lt : b < Bs ∧ g6 < Bs ∧ g7 < Bs ∧ B0 ≤ Bs ∧ Bs ≤ w.heap.size
section
variable {b B0 : Nat} {w0 : World} {g6 g7 Bs : Nat} {F : Value → Array Value} {sh : List R2} {sv : Value} {w w' : World}
theorem JL.pot (h : JL b B0 w0 g6 g7 Bs F sh sv w) (hk : PB b w.heap.size w w') (hp : Pt w' b) : JL b B0 w0 g6 g7 Bs F sh sv w' := by
  obtain ⟨l1,l2,l3,l4,l5⟩ := h.lt
  exact ⟨h.js.pot hk hp,own_of' h.own (fun g hg hlt => hk.heap g hlt (by omega)),l1,l2,l3,l4,Nat.le_trans l5 hk.size⟩
theorem JL.next (h : JL b B0 w0 g6 g7 Bs F sh sv w) (hb : Below w.heap.size w w') : JL b B0 w0 g6 g7 Bs F sh sv w' := h.pot (PB.of hb) (h.js.pt.below hb h.js.pt.lt)
theorem JL.grown {v' : Value} {x : R2} (h : JL b B0 w0 g6 g7 Bs F sh sv w) (hown : w'.ownsRow Bs 23 2 v' (sh.length + 1) (rgCells sh ++ [.int .i64 x.1,.int .i64 x.2])) (hg : w.grownBy w' sv.ownBlock) :
    JS b B0 w0 g6 g7 (F sv) w' ∧ w'.ownsRow Bs 23 2 v' (sh ++ [x]).length (rgCells (sh ++ [x])) ∧ (b < Bs ∧ g6 < Bs ∧ g7 < Bs ∧ B0 ≤ Bs ∧ Bs ≤ w'.heap.size) := by
  obtain ⟨l1,l2,l3,l4,l5⟩ := h.lt
  have hob : ∀ g,sv.ownBlock = some g → Bs ≤ g := fun g hg => (own_block' h.own g hg).1
  have hne : ∀ g,g < Bs → some g ≠ sv.ownBlock := fun g hgl e => by have := hob g e.symm; omega
  obtain ⟨c6,h6,h6s⟩ := h.js.r6
  obtain ⟨n1,n2,n3,n4,n5,n6⟩ := h.js.ne
  refine ⟨⟨h.js.bk.grown hg (hne _ l3),⟨c6,h6.grown hg (hne _ l2),h6s⟩,h.js.pt.grown hg (hne _ l1),⟨hg.os.trans h.js.pb.os,hg.tape.trans h.js.pb.tape,hg.output.trans h.js.pb.output,Nat.le_trans h.js.pb.size hg.size,fun q hq hqb => (hg.block q (Nat.lt_of_lt_of_le hq n6) (hne q (by omega))).trans (h.js.pb.heap q hq hqb)⟩,n1,n2,n3,n4,n5,Nat.le_trans n6 hg.size⟩,?_,l1,l2,l3,l4,Nat.le_trans l5 hg.size⟩
  have e : rgCells (sh ++ [x]) = rgCells sh ++ [.int .i64 x.1,.int .i64 x.2] := by
    clear hown h h6
    induction sh with
    | nil => rfl
    | cons y l ih => show _ :: _ :: rgCells (l ++ [x]) = _; rw [ih]; rfl
  rw [e,List.length_append]
  exact hown
end
set_option maxHeartbeats 1000000 in
set_option maxRecDepth 1000000 in
theorem jopart8 {w0 : World} {b B0 g6 g7 : Nat} {wide loose : Int} {w : World} {wi me p1 p2 t1 t2 r1 r2 u1 u2 d1 d2 x1 x2 y1 y2 le : Int} {u3 u4 u5 u8 u9 A0 A1 A2 A3 A4 A5 A6 A7 A8 A9 Aa Ab Ac Ad Ae Af Ag Ah Ai Aj Ak Al Am An Ao Ap Aq Ar As At Au Av Aw Ax Ay Az C0 C1 C2 C3 C4 C5 C6 C7 C8 C9 Ca Cb Cc Cd Ce Cf Cg Ch Ci Cj Ck Cl Cm Cn Co Cp Cq Cr Cs Ct Cu Cv Cw Cx Cy Cz D0 D1 : Value} (hwd : 0 ≤ wide ∧ wide ≤ 40) (hlo : 0 ≤ loose ∧ loose ≤ 40) (hwi : 1 ≤ wi ∧ wi ≤ 6) (hme : 0 ≤ me ∧ me ≤ 3) (hp : -60 ≤ p1 ∧ p1 ≤ p2 ∧ p2 ≤ 60) (ht : 18 ≤ t1 ∧ t1 ≤ t2 ∧ t2 ≤ 100) (hr : 18 ≤ r1 ∧ r1 ≤ r2 ∧ r2 ≤ 100) (hu : 0 ≤ u1 ∧ u1 ≤ u2 ∧ u2 ≤ 12) (hd : 0 ≤ d1 ∧ d1 ≤ d2 ∧ d2 ≤ 12) (hx : 0 ≤ x1 ∧ x1 ≤ x2 ∧ x2 ≤ 12) (hy : 0 ≤ y1 ∧ y1 ≤ y2 ∧ y2 ≤ 12) (hle : 0 ≤ le ∧ le ≤ 100) (hs : JS b B0 w0 g6 g7 (jobC ⟨p1,p2,t1,t2,r1,r2,u1,u2,d1,d2,x1,x2,y1,y2,le,wi,me,[]⟩ (.slice none 0 0)) w) (hB : B0 = w0.heap.size) : Code.wp Tryz.prog jorest8 (QJO b w0) ⟨#[(.pointer (some ⟨b,0,none⟩)),(.int .i64 wide),(.int .i64 loose),u3,u4,u5,(.pointer (some ⟨g6,0,none⟩)),(.pointer (some ⟨g7,0,none⟩)),u8,u9,A0,A1,A2,A3,A4,A5,A6,A7,A8,A9,Aa,Ab,Ac,Ad,Ae,Af,Ag,Ah,Ai,Aj,Ak,Al,Am,An,Ao,Ap,Aq,Ar,As,At,Au,Av,Aw,Ax,Ay,Az,C0,C1,C2,C3,C4,C5,C6,C7,C8,C9,Ca,Cb,Cc,Cd,Ce,Cf,Cg,Ch,Ci,Cj,Ck,Cl,Cm,Cn,Co,Cp,Cq,Cr,Cs,Ct,Cu,Cv,Cw,Cx,Cy,Cz,D0,D1],[]⟩ w := by
  rw [jorest8_eq]
  obtain ⟨ti,ha1,ha2,ha3,ha4⟩ := infoR
  have Hi := hidMk ha1
  have Hz := hidMk ha2
  have Hsz := hidMk ha3
  have Hby := hidMk ha4
  clear ha1 ha2 ha3 ha4
  have HS := hidMk hs
  clear hs
  refine wp_seq_k fun K0 hK0 => ?_
  go_wp2_with fail
  refine (uptoP b 3 _ HS.out.pt (by omega)).mono ?_
  rintro e w_ ⟨m,rfl,qm,hk,hp⟩
  have HS' := hidMk (HS.out.pot hk hp)
  clear HS hk hp
  have HS := HS'
  clear HS'

  go_wp2_with fail
  obtain ⟨Bs,hBs⟩ : ∃ B,B = w_.heap.size := ⟨_,rfl⟩
  have hl0 : JL b B0 w0 g6 g7 Bs (fun sv => (jobC ⟨p1,p2,t1,t2,r1,r2,u1,u2,d1,d2,x1,x2,y1,y2,le,wi,me,[]⟩ sv)) [] (.slice none 0 0) w_ := by
    obtain ⟨c6,h6,_⟩ := HS.out.r6
    exact ⟨HS.out,⟨rfl,.inl ⟨rfl,rfl⟩⟩,by rw [hBs]; exact HS.out.pt.lt,by rw [hBs]; exact h6.lt,by rw [hBs]; exact HS.out.bk.lt,by rw [hBs]; exact HS.out.ne.2.2.2.2.2,by rw [hBs]; exact Nat.le_refl _⟩
  have HL := hidMk hl0
  clear hl0 hBs HS
  go_loopw [9] (fun iv wr => ∃ (k : Nat) (j : Int) (sh : List R2) (sv : Value),(j + k = m ∧ 0 ≤ j) ∧ iv = .int .i64 j ∧ sh.length = k ∧ Hid (∀ s ∈ sh,-60 ≤ s.1 ∧ s.1 ≤ s.2 ∧ s.2 ≤ 60) ∧ Hid (JL b B0 w0 g6 g7 Bs (fun sv => (jobC ⟨p1,p2,t1,t2,r1,r2,u1,u2,d1,d2,x1,x2,y1,y2,le,wi,me,[]⟩ sv)) sh sv wr)) (fun iv _ => (intOf iv).toNat)
  case atStart => exact ⟨0,m,[],_,⟨by omega,by omega⟩,rfl,rfl,hidMk (by simp),HL⟩
  case round =>
    obtain ⟨k,j,sh,sv,⟨hj1,hj2⟩,rfl,rfl,HB,HJ⟩ := hrel
    by_cases hlt : 0 < j
    · go_wp2_with fail
      refine region_via (R := fun a_ e_ a' w' => e_ = .normal ∧ ∃ (v74 v75 v76 v77 v78 v79 v80 v81 v82 : Value) (x : R2) (v' : Value),a' = (((((((((a_.put (some 74) v74).put (some 75) v75).put (some 76) v76).put (some 77) v77).put (some 78) v78).put (some 79) v79).put (some 80) v80).put (some 81) v81).put (some 82) v82) ∧ (-60 ≤ x.1 ∧ x.1 ≤ x.2 ∧ x.2 ≤ 60) ∧ JS b B0 w0 g6 g7 (jobC ⟨p1,p2,t1,t2,r1,r2,u1,u2,d1,d2,x1,x2,y1,y2,le,wi,me,[]⟩ v') w' ∧ w'.ownsRow Bs 23 2 v' (sh ++ [x]).length (rgCells (sh ++ [x])) ∧ (b < Bs ∧ g6 < Bs ∧ g7 < Bs ∧ B0 ≤ Bs ∧ Bs ≤ w'.heap.size)) ?_ ?_
      rotate_left
      · rintro e_ a' w' ⟨rfl,v74,v75,v76,v77,v78,v79,v80,v81,v82,x,v',rfl,hx,h1,h2,h3⟩
        simp only [Act.put,aT,aZ,aS]
        have HX := hidMk hx
        have HJ2 := hidMk (show JL b B0 w0 g6 g7 Bs (fun sv => (jobC ⟨p1,p2,t1,t2,r1,r2,u1,u2,d1,d2,x1,x2,y1,y2,le,wi,me,[]⟩ sv)) (sh ++ [x]) v' w' from ⟨h1,h2,h3⟩)
        clear hx h1 h2 h3
        go_wp2_with fail
        go_roundw
        case rel =>
          refine ⟨sh.length + 1,j - 1,sh ++ [x],v',⟨by omega,by omega⟩,by go_num,by rw [List.length_append]; rfl,hidMk (fun s hs => ?_),HJ2⟩
          rcases List.mem_append.1 hs with hs | hs
          · exact HB.out s hs
          · rw [List.mem_singleton] at hs
            subst hs
            exact HX.out
        case measure => simp [intOf]; omega
      have hJ : JL b B0 w0 g6 g7 Bs (fun sv => (jobC ⟨p1,p2,t1,t2,r1,r2,u1,u2,d1,d2,x1,x2,y1,y2,le,wi,me,[]⟩ sv)) sh sv wr.drew := HJ.out.next (Below.refl _ _).drew
      clear HJ
      refine wp_region_held_drew (S := fun _ => True) (by kernel_rfl) trivial (fun hS0 => ?_)
      generalize hWd : wr.drew = wd at hJ ⊢
      clear hWd
      refine wpAnyH_take (i := 0) (v := ?_) rfl (by kernel_rfl) (by kernel_rfl) (by kernel_rfl) (fun _ _ _ h => by cases h.1) (.inl ⟨by rfl,?_⟩) (by assumption) ?_
      rotate_left
      · (intro w' hSw; (try dsimp only at hSw); skip; go_simp <;> with_reducible rfl)
      (try simp only [Act.put,aT,aZ,aS])
      refine wpAnyH_take (i := 2) (v := ?_) rfl (by kernel_rfl) (by kernel_rfl) (by kernel_rfl) (fun _ _ _ h => by cases h.1) (.inl ⟨by rfl,?_⟩) (by assumption) ?_
      rotate_left
      · (intro w' hSw; (try dsimp only at hSw); skip; go_simp <;> with_reducible rfl)
      (try simp only [Act.put,aT,aZ,aS])
      refine wpAnyH_take (i := 3) (v := ?_) rfl (by kernel_rfl) (by kernel_rfl) (by kernel_rfl) (fun _ _ _ h => by cases h.1) (.inl ⟨by rfl,?_⟩) (by assumption) ?_
      rotate_left
      · (intro w' hSw; (try dsimp only at hSw); skip; go_simp <;> with_reducible rfl)
      (try simp only [Act.put,aT,aZ,aS])
      refine wpAnyH_ready (rs := [1,4]) (by kernel_rfl) (by simp) ?_
      refine AllReadyH.cons rfl (fun K hK => ?_) ?_
      · have c15 := hJ.js.bk.at_ 15 sv rfl
        go_simp
        refine hK.out _ _ trivial (fun _ => ?_)
        clear c15
        clear hK K
        (try simp only [Act.put,aT,aZ,aS])
        refine wpAnyH_ready (rs := [4]) (by kernel_rfl) (by simp) ?_
        refine AllReadyH.cons rfl (fun K hK => ?_) ?_
        · go_simp
          go_at_call 24
          refine (withinP b (-3) 3 _ hJ.js.pt (by omega)).mono ?_
          rintro e wx ⟨x0,rfl,hx0,hk,hp⟩
          have hJ_ := hJ.pot hk hp
          clear hp
          clear hJ hk
          have hJ := hJ_
          clear hJ_
          go_wp2_with fail
          refine hK.out _ _ trivial (fun _ => ?_)
          clear hK K
          (try simp only [Act.put,aT,aZ,aS])
          refine wpAnyH_ready (rs := [5]) (by kernel_rfl) (by simp) ?_
          refine AllReadyH.cons rfl (fun K hK => ?_) ?_
          · go_simp
            go_at_call 27
            refine (nearP b x0 (-60) 60 2 _ hJ.js.pt (by omega) (by omega)).mono ?_
            rintro e wy ⟨xa,xb,rfl,hxx,hk,hp⟩
            have hJ_ := hJ.pot hk hp
            clear hp
            clear hJ hk
            have hJ := hJ_
            clear hJ_
            go_wp2_with fail
            refine hK.out _ _ trivial (fun _ => ?_)
            clear hK K
            (try simp only [Act.put,aT,aZ,aS])
            refine wpAnyH_ready (rs := [6]) (by kernel_rfl) (by simp) ?_
            refine AllReadyH.cons rfl (fun K hK => ?_) ?_
            · have hJ_ := hJ.next ((Below.refl _ _).alloc (Nat.le_refl wy.heap.size) (.cells #[.int .i64 xa,.int .i64 xb] 23))
              have hA : Bk (wy.alloc (.cells #[.int .i64 xa,.int .i64 xb] 23)) wy.heap.size 23 #[.int .i64 xa,.int .i64 xb] := Bk.new _ _ _
              go_simp
              show K _ (wy.alloc (.cells #[.int .i64 xa,.int .i64 xb] 23))
              refine hK.out _ _ trivial (fun _ => ?_)
              clear hJ
              have hJ := hJ_
              clear hJ_
              generalize wy.heap.size = gA at hA ⊢
              generalize (wy.alloc (.cells #[.int .i64 xa,.int .i64 xb] 23)) = wz at hA hJ ⊢
              clear hK K
              (try simp only [Act.put,aT,aZ,aS])
              refine wpAnyH_ready (rs := [7]) (by kernel_rfl) (by simp) ?_
              refine AllReadyH.cons rfl (fun K hK => ?_) ?_
              · refine wp_append_own (.tmp 75) (.tmp 80) 28 rfl Bs 23 ti (.agg #[.int .i64 0,.int .i64 0]) 2 16 Tryz.underlying28 Hi.out Hz.out Hsz.out Hby.out rfl (by decide) sv sh.length (rgCells sh) rfl hJ.own ⟨gA,0,none⟩ 1 1 [.int .i64 xa,.int .i64 xb] rfl rfl (fun j u hu => by rw [Addr.add_mid,Nat.zero_add]; exact hA.at_ j u (by simpa using hu)) (by intro u hu; simp at hu; rcases hu with rfl | rfl <;> rfl) (by unfold maxLen; omega) (by omega) hJ.lt.2.2.2.2 ?_
                intro v' wu own' hg' _
                obtain ⟨qb,cp,rfl⟩ : ∃ qb cp,v' = .slice (some ⟨qb,0,none⟩) (sh.length + 1) cp := by
                  rcases own'.2 with ⟨_,h⟩ | ⟨q,cap,cur,h,_⟩
                  · omega
                  · exact ⟨q,cap,h⟩
                obtain ⟨hq1,hq2,hq3⟩ := hJ.grown (x := (xa,xb)) own' hg'
                refine hK.out _ _ trivial (fun _ => ?_)
                clear hJ hA own' hg'
                clear hK K
                (try simp only [Act.put,aT,aZ,aS])
                refine wpAnyH_take (i := 8) (v := ?_) rfl (by kernel_rfl) (by kernel_rfl) (by kernel_rfl) (fun _ _ _ h => by cases h.1) (.inl ⟨by rfl,?_⟩) (by assumption) ?_
                rotate_left
                · (intro w' hSw; (try dsimp only at hSw); skip; go_simp <;> with_reducible rfl)
                (try simp only [Act.put,aT,aZ,aS])
                refine wpAnyH_ready (rs := [9]) (by kernel_rfl) (by simp) ?_
                refine AllReadyH.cons rfl (fun K hK => ?_) ?_
                · have z15 := hq1.bk.at_ 15 sv rfl
                  have f15 := hq1.bk.free 15
                  have hq4 : JS b B0 w0 g6 g7 (jobC ⟨p1,p2,t1,t2,r1,r2,u1,u2,d1,d2,x1,x2,y1,y2,le,wi,me,[]⟩ (.slice (some ⟨qb,0,none⟩) (sh.length + 1) cp)) (wu.setCell ⟨g7,15,none⟩ (.slice (some ⟨qb,0,none⟩) (sh.length + 1) cp)) := hq1.put 15 (.slice (some ⟨qb,0,none⟩) (sh.length + 1) cp)
                  have hq5 : (wu.setCell ⟨g7,15,none⟩ (.slice (some ⟨qb,0,none⟩) (sh.length + 1) cp)).ownsRow Bs 23 2 (.slice (some ⟨qb,0,none⟩) (sh.length + 1) cp) (sh ++ [(xa,xb)]).length (rgCells (sh ++ [(xa,xb)])) := own_of' hq2 (fun g hg _ => Below.heap_setCell wu ⟨g7,15,none⟩ (.slice (some ⟨qb,0,none⟩) (sh.length + 1) cp) g (by show g ≠ g7; omega))
                  have hsz : wu.heap.size ≤ (wu.setCell ⟨g7,15,none⟩ (.slice (some ⟨qb,0,none⟩) (sh.length + 1) cp)).heap.size := by simp
                  go_simp
                  refine hK.out _ _ trivial (fun _ => ?_)
                  clear hK K
                  (try simp only [Act.put,aT,aZ,aS])
                  refine wpAnyH_done (by kernel_rfl) ?_ _
                  have hxx' : -60 ≤ xa ∧ xa ≤ xb ∧ xb ≤ 60 := by omega
                  exact ⟨rfl,_,_,_,_,_,_,_,_,_,(xa,xb),_,rfl,hxx',hq4,hq5,by obtain ⟨l1,l2,l3,l4,l5⟩ := hq3; exact ⟨l1,l2,l3,l4,Nat.le_trans l5 hsz⟩⟩
                exact AllReadyH.nil
              exact AllReadyH.nil
            exact AllReadyH.nil
          exact AllReadyH.nil
        exact AllReadyH.nil
      refine AllReadyH.cons rfl (fun K hK => ?_) ?_
      · go_simp
        go_at_call 24
        refine (withinP b (-3) 3 _ hJ.js.pt (by omega)).mono ?_
        rintro e wx ⟨x0,rfl,hx0,hk,hp⟩
        have hJ_ := hJ.pot hk hp
        clear hp
        clear hJ hk
        have hJ := hJ_
        clear hJ_
        go_wp2_with fail
        refine hK.out _ _ trivial (fun _ => ?_)
        clear hK K
        (try simp only [Act.put,aT,aZ,aS])
        refine wpAnyH_ready (rs := [1,5]) (by kernel_rfl) (by simp) ?_
        refine AllReadyH.cons rfl (fun K hK => ?_) ?_
        · have c15 := hJ.js.bk.at_ 15 sv rfl
          go_simp
          refine hK.out _ _ trivial (fun _ => ?_)
          clear c15
          clear hK K
          (try simp only [Act.put,aT,aZ,aS])
          refine wpAnyH_ready (rs := [5]) (by kernel_rfl) (by simp) ?_
          refine AllReadyH.cons rfl (fun K hK => ?_) ?_
          · go_simp
            go_at_call 27
            refine (nearP b x0 (-60) 60 2 _ hJ.js.pt (by omega) (by omega)).mono ?_
            rintro e wy ⟨xa,xb,rfl,hxx,hk,hp⟩
            have hJ_ := hJ.pot hk hp
            clear hp
            clear hJ hk
            have hJ := hJ_
            clear hJ_
            go_wp2_with fail
            refine hK.out _ _ trivial (fun _ => ?_)
            clear hK K
            (try simp only [Act.put,aT,aZ,aS])
            refine wpAnyH_ready (rs := [6]) (by kernel_rfl) (by simp) ?_
            refine AllReadyH.cons rfl (fun K hK => ?_) ?_
            · have hJ_ := hJ.next ((Below.refl _ _).alloc (Nat.le_refl wy.heap.size) (.cells #[.int .i64 xa,.int .i64 xb] 23))
              have hA : Bk (wy.alloc (.cells #[.int .i64 xa,.int .i64 xb] 23)) wy.heap.size 23 #[.int .i64 xa,.int .i64 xb] := Bk.new _ _ _
              go_simp
              show K _ (wy.alloc (.cells #[.int .i64 xa,.int .i64 xb] 23))
              refine hK.out _ _ trivial (fun _ => ?_)
              clear hJ
              have hJ := hJ_
              clear hJ_
              generalize wy.heap.size = gA at hA ⊢
              generalize (wy.alloc (.cells #[.int .i64 xa,.int .i64 xb] 23)) = wz at hA hJ ⊢
              clear hK K
              (try simp only [Act.put,aT,aZ,aS])
              refine wpAnyH_ready (rs := [7]) (by kernel_rfl) (by simp) ?_
              refine AllReadyH.cons rfl (fun K hK => ?_) ?_
              · refine wp_append_own (.tmp 75) (.tmp 80) 28 rfl Bs 23 ti (.agg #[.int .i64 0,.int .i64 0]) 2 16 Tryz.underlying28 Hi.out Hz.out Hsz.out Hby.out rfl (by decide) sv sh.length (rgCells sh) rfl hJ.own ⟨gA,0,none⟩ 1 1 [.int .i64 xa,.int .i64 xb] rfl rfl (fun j u hu => by rw [Addr.add_mid,Nat.zero_add]; exact hA.at_ j u (by simpa using hu)) (by intro u hu; simp at hu; rcases hu with rfl | rfl <;> rfl) (by unfold maxLen; omega) (by omega) hJ.lt.2.2.2.2 ?_
                intro v' wu own' hg' _
                obtain ⟨qb,cp,rfl⟩ : ∃ qb cp,v' = .slice (some ⟨qb,0,none⟩) (sh.length + 1) cp := by
                  rcases own'.2 with ⟨_,h⟩ | ⟨q,cap,cur,h,_⟩
                  · omega
                  · exact ⟨q,cap,h⟩
                obtain ⟨hq1,hq2,hq3⟩ := hJ.grown (x := (xa,xb)) own' hg'
                refine hK.out _ _ trivial (fun _ => ?_)
                clear hJ hA own' hg'
                clear hK K
                (try simp only [Act.put,aT,aZ,aS])
                refine wpAnyH_take (i := 8) (v := ?_) rfl (by kernel_rfl) (by kernel_rfl) (by kernel_rfl) (fun _ _ _ h => by cases h.1) (.inl ⟨by rfl,?_⟩) (by assumption) ?_
                rotate_left
                · (intro w' hSw; (try dsimp only at hSw); skip; go_simp <;> with_reducible rfl)
                (try simp only [Act.put,aT,aZ,aS])
                refine wpAnyH_ready (rs := [9]) (by kernel_rfl) (by simp) ?_
                refine AllReadyH.cons rfl (fun K hK => ?_) ?_
                · have z15 := hq1.bk.at_ 15 sv rfl
                  have f15 := hq1.bk.free 15
                  have hq4 : JS b B0 w0 g6 g7 (jobC ⟨p1,p2,t1,t2,r1,r2,u1,u2,d1,d2,x1,x2,y1,y2,le,wi,me,[]⟩ (.slice (some ⟨qb,0,none⟩) (sh.length + 1) cp)) (wu.setCell ⟨g7,15,none⟩ (.slice (some ⟨qb,0,none⟩) (sh.length + 1) cp)) := hq1.put 15 (.slice (some ⟨qb,0,none⟩) (sh.length + 1) cp)
                  have hq5 : (wu.setCell ⟨g7,15,none⟩ (.slice (some ⟨qb,0,none⟩) (sh.length + 1) cp)).ownsRow Bs 23 2 (.slice (some ⟨qb,0,none⟩) (sh.length + 1) cp) (sh ++ [(xa,xb)]).length (rgCells (sh ++ [(xa,xb)])) := own_of' hq2 (fun g hg _ => Below.heap_setCell wu ⟨g7,15,none⟩ (.slice (some ⟨qb,0,none⟩) (sh.length + 1) cp) g (by show g ≠ g7; omega))
                  have hsz : wu.heap.size ≤ (wu.setCell ⟨g7,15,none⟩ (.slice (some ⟨qb,0,none⟩) (sh.length + 1) cp)).heap.size := by simp
                  go_simp
                  refine hK.out _ _ trivial (fun _ => ?_)
                  clear hK K
                  (try simp only [Act.put,aT,aZ,aS])
                  refine wpAnyH_done (by kernel_rfl) ?_ _
                  have hxx' : -60 ≤ xa ∧ xa ≤ xb ∧ xb ≤ 60 := by omega
                  exact ⟨rfl,_,_,_,_,_,_,_,_,_,(xa,xb),_,rfl,hxx',hq4,hq5,by obtain ⟨l1,l2,l3,l4,l5⟩ := hq3; exact ⟨l1,l2,l3,l4,Nat.le_trans l5 hsz⟩⟩
                exact AllReadyH.nil
              exact AllReadyH.nil
            exact AllReadyH.nil
          exact AllReadyH.nil
        refine AllReadyH.cons rfl (fun K hK => ?_) ?_
        · go_simp
          go_at_call 27
          refine (nearP b x0 (-60) 60 2 _ hJ.js.pt (by omega) (by omega)).mono ?_
          rintro e wy ⟨xa,xb,rfl,hxx,hk,hp⟩
          have hJ_ := hJ.pot hk hp
          clear hp
          clear hJ hk
          have hJ := hJ_
          clear hJ_
          go_wp2_with fail
          refine hK.out _ _ trivial (fun _ => ?_)
          clear hK K
          (try simp only [Act.put,aT,aZ,aS])
          refine wpAnyH_ready (rs := [1,6]) (by kernel_rfl) (by simp) ?_
          refine AllReadyH.cons rfl (fun K hK => ?_) ?_
          · have c15 := hJ.js.bk.at_ 15 sv rfl
            go_simp
            refine hK.out _ _ trivial (fun _ => ?_)
            clear c15
            clear hK K
            (try simp only [Act.put,aT,aZ,aS])
            refine wpAnyH_ready (rs := [6]) (by kernel_rfl) (by simp) ?_
            refine AllReadyH.cons rfl (fun K hK => ?_) ?_
            · have hJ_ := hJ.next ((Below.refl _ _).alloc (Nat.le_refl wy.heap.size) (.cells #[.int .i64 xa,.int .i64 xb] 23))
              have hA : Bk (wy.alloc (.cells #[.int .i64 xa,.int .i64 xb] 23)) wy.heap.size 23 #[.int .i64 xa,.int .i64 xb] := Bk.new _ _ _
              go_simp
              show K _ (wy.alloc (.cells #[.int .i64 xa,.int .i64 xb] 23))
              refine hK.out _ _ trivial (fun _ => ?_)
              clear hJ
              have hJ := hJ_
              clear hJ_
              generalize wy.heap.size = gA at hA ⊢
              generalize (wy.alloc (.cells #[.int .i64 xa,.int .i64 xb] 23)) = wz at hA hJ ⊢
              clear hK K
              (try simp only [Act.put,aT,aZ,aS])
              refine wpAnyH_ready (rs := [7]) (by kernel_rfl) (by simp) ?_
              refine AllReadyH.cons rfl (fun K hK => ?_) ?_
              · refine wp_append_own (.tmp 75) (.tmp 80) 28 rfl Bs 23 ti (.agg #[.int .i64 0,.int .i64 0]) 2 16 Tryz.underlying28 Hi.out Hz.out Hsz.out Hby.out rfl (by decide) sv sh.length (rgCells sh) rfl hJ.own ⟨gA,0,none⟩ 1 1 [.int .i64 xa,.int .i64 xb] rfl rfl (fun j u hu => by rw [Addr.add_mid,Nat.zero_add]; exact hA.at_ j u (by simpa using hu)) (by intro u hu; simp at hu; rcases hu with rfl | rfl <;> rfl) (by unfold maxLen; omega) (by omega) hJ.lt.2.2.2.2 ?_
                intro v' wu own' hg' _
                obtain ⟨qb,cp,rfl⟩ : ∃ qb cp,v' = .slice (some ⟨qb,0,none⟩) (sh.length + 1) cp := by
                  rcases own'.2 with ⟨_,h⟩ | ⟨q,cap,cur,h,_⟩
                  · omega
                  · exact ⟨q,cap,h⟩
                obtain ⟨hq1,hq2,hq3⟩ := hJ.grown (x := (xa,xb)) own' hg'
                refine hK.out _ _ trivial (fun _ => ?_)
                clear hJ hA own' hg'
                clear hK K
                (try simp only [Act.put,aT,aZ,aS])
                refine wpAnyH_take (i := 8) (v := ?_) rfl (by kernel_rfl) (by kernel_rfl) (by kernel_rfl) (fun _ _ _ h => by cases h.1) (.inl ⟨by rfl,?_⟩) (by assumption) ?_
                rotate_left
                · (intro w' hSw; (try dsimp only at hSw); skip; go_simp <;> with_reducible rfl)
                (try simp only [Act.put,aT,aZ,aS])
                refine wpAnyH_ready (rs := [9]) (by kernel_rfl) (by simp) ?_
                refine AllReadyH.cons rfl (fun K hK => ?_) ?_
                · have z15 := hq1.bk.at_ 15 sv rfl
                  have f15 := hq1.bk.free 15
                  have hq4 : JS b B0 w0 g6 g7 (jobC ⟨p1,p2,t1,t2,r1,r2,u1,u2,d1,d2,x1,x2,y1,y2,le,wi,me,[]⟩ (.slice (some ⟨qb,0,none⟩) (sh.length + 1) cp)) (wu.setCell ⟨g7,15,none⟩ (.slice (some ⟨qb,0,none⟩) (sh.length + 1) cp)) := hq1.put 15 (.slice (some ⟨qb,0,none⟩) (sh.length + 1) cp)
                  have hq5 : (wu.setCell ⟨g7,15,none⟩ (.slice (some ⟨qb,0,none⟩) (sh.length + 1) cp)).ownsRow Bs 23 2 (.slice (some ⟨qb,0,none⟩) (sh.length + 1) cp) (sh ++ [(xa,xb)]).length (rgCells (sh ++ [(xa,xb)])) := own_of' hq2 (fun g hg _ => Below.heap_setCell wu ⟨g7,15,none⟩ (.slice (some ⟨qb,0,none⟩) (sh.length + 1) cp) g (by show g ≠ g7; omega))
                  have hsz : wu.heap.size ≤ (wu.setCell ⟨g7,15,none⟩ (.slice (some ⟨qb,0,none⟩) (sh.length + 1) cp)).heap.size := by simp
                  go_simp
                  refine hK.out _ _ trivial (fun _ => ?_)
                  clear hK K
                  (try simp only [Act.put,aT,aZ,aS])
                  refine wpAnyH_done (by kernel_rfl) ?_ _
                  have hxx' : -60 ≤ xa ∧ xa ≤ xb ∧ xb ≤ 60 := by omega
                  exact ⟨rfl,_,_,_,_,_,_,_,_,_,(xa,xb),_,rfl,hxx',hq4,hq5,by obtain ⟨l1,l2,l3,l4,l5⟩ := hq3; exact ⟨l1,l2,l3,l4,Nat.le_trans l5 hsz⟩⟩
                exact AllReadyH.nil
              exact AllReadyH.nil
            exact AllReadyH.nil
          refine AllReadyH.cons rfl (fun K hK => ?_) ?_
          · have hJ_ := hJ.next ((Below.refl _ _).alloc (Nat.le_refl wy.heap.size) (.cells #[.int .i64 xa,.int .i64 xb] 23))
            have hA : Bk (wy.alloc (.cells #[.int .i64 xa,.int .i64 xb] 23)) wy.heap.size 23 #[.int .i64 xa,.int .i64 xb] := Bk.new _ _ _
            go_simp
            show K _ (wy.alloc (.cells #[.int .i64 xa,.int .i64 xb] 23))
            refine hK.out _ _ trivial (fun _ => ?_)
            clear hJ
            have hJ := hJ_
            clear hJ_
            generalize wy.heap.size = gA at hA ⊢
            generalize (wy.alloc (.cells #[.int .i64 xa,.int .i64 xb] 23)) = wz at hA hJ ⊢
            clear hK K
            (try simp only [Act.put,aT,aZ,aS])
            refine wpAnyH_ready (rs := [1]) (by kernel_rfl) (by simp) ?_
            refine AllReadyH.cons rfl (fun K hK => ?_) ?_
            · have c15 := hJ.js.bk.at_ 15 sv rfl
              go_simp
              refine hK.out _ _ trivial (fun _ => ?_)
              clear c15
              clear hK K
              (try simp only [Act.put,aT,aZ,aS])
              refine wpAnyH_ready (rs := [7]) (by kernel_rfl) (by simp) ?_
              refine AllReadyH.cons rfl (fun K hK => ?_) ?_
              · refine wp_append_own (.tmp 75) (.tmp 80) 28 rfl Bs 23 ti (.agg #[.int .i64 0,.int .i64 0]) 2 16 Tryz.underlying28 Hi.out Hz.out Hsz.out Hby.out rfl (by decide) sv sh.length (rgCells sh) rfl hJ.own ⟨gA,0,none⟩ 1 1 [.int .i64 xa,.int .i64 xb] rfl rfl (fun j u hu => by rw [Addr.add_mid,Nat.zero_add]; exact hA.at_ j u (by simpa using hu)) (by intro u hu; simp at hu; rcases hu with rfl | rfl <;> rfl) (by unfold maxLen; omega) (by omega) hJ.lt.2.2.2.2 ?_
                intro v' wu own' hg' _
                obtain ⟨qb,cp,rfl⟩ : ∃ qb cp,v' = .slice (some ⟨qb,0,none⟩) (sh.length + 1) cp := by
                  rcases own'.2 with ⟨_,h⟩ | ⟨q,cap,cur,h,_⟩
                  · omega
                  · exact ⟨q,cap,h⟩
                obtain ⟨hq1,hq2,hq3⟩ := hJ.grown (x := (xa,xb)) own' hg'
                refine hK.out _ _ trivial (fun _ => ?_)
                clear hJ hA own' hg'
                clear hK K
                (try simp only [Act.put,aT,aZ,aS])
                refine wpAnyH_take (i := 8) (v := ?_) rfl (by kernel_rfl) (by kernel_rfl) (by kernel_rfl) (fun _ _ _ h => by cases h.1) (.inl ⟨by rfl,?_⟩) (by assumption) ?_
                rotate_left
                · (intro w' hSw; (try dsimp only at hSw); skip; go_simp <;> with_reducible rfl)
                (try simp only [Act.put,aT,aZ,aS])
                refine wpAnyH_ready (rs := [9]) (by kernel_rfl) (by simp) ?_
                refine AllReadyH.cons rfl (fun K hK => ?_) ?_
                · have z15 := hq1.bk.at_ 15 sv rfl
                  have f15 := hq1.bk.free 15
                  have hq4 : JS b B0 w0 g6 g7 (jobC ⟨p1,p2,t1,t2,r1,r2,u1,u2,d1,d2,x1,x2,y1,y2,le,wi,me,[]⟩ (.slice (some ⟨qb,0,none⟩) (sh.length + 1) cp)) (wu.setCell ⟨g7,15,none⟩ (.slice (some ⟨qb,0,none⟩) (sh.length + 1) cp)) := hq1.put 15 (.slice (some ⟨qb,0,none⟩) (sh.length + 1) cp)
                  have hq5 : (wu.setCell ⟨g7,15,none⟩ (.slice (some ⟨qb,0,none⟩) (sh.length + 1) cp)).ownsRow Bs 23 2 (.slice (some ⟨qb,0,none⟩) (sh.length + 1) cp) (sh ++ [(xa,xb)]).length (rgCells (sh ++ [(xa,xb)])) := own_of' hq2 (fun g hg _ => Below.heap_setCell wu ⟨g7,15,none⟩ (.slice (some ⟨qb,0,none⟩) (sh.length + 1) cp) g (by show g ≠ g7; omega))
                  have hsz : wu.heap.size ≤ (wu.setCell ⟨g7,15,none⟩ (.slice (some ⟨qb,0,none⟩) (sh.length + 1) cp)).heap.size := by simp
                  go_simp
                  refine hK.out _ _ trivial (fun _ => ?_)
                  clear hK K
                  (try simp only [Act.put,aT,aZ,aS])
                  refine wpAnyH_done (by kernel_rfl) ?_ _
                  have hxx' : -60 ≤ xa ∧ xa ≤ xb ∧ xb ≤ 60 := by omega
                  exact ⟨rfl,_,_,_,_,_,_,_,_,_,(xa,xb),_,rfl,hxx',hq4,hq5,by obtain ⟨l1,l2,l3,l4,l5⟩ := hq3; exact ⟨l1,l2,l3,l4,Nat.le_trans l5 hsz⟩⟩
                exact AllReadyH.nil
              exact AllReadyH.nil
            exact AllReadyH.nil
          exact AllReadyH.nil
        exact AllReadyH.nil
      exact AllReadyH.nil
    · have hown := HJ.out.own
      obtain ⟨sa,sc,rfl,hsn,hrg,hrb⟩ := rg_of_own hown
      have HOWN := hidMk hown
      clear hown
      have HRG := hidMk hrg
      have HRB := hidMk hrb
      have HSN := hidMk hsn
      clear hrg hrb hsn
      go_wp2_with fail
      exact jopart9 hwd hlo hwi hme hp ht hr hu hd hx hy hle HB.out (by omega) rfl HRG.out (fun q o hq => by have h1 := HRB.out q o hq; have h2 := HJ.out.lt.2.1; omega) HOWN.out ⟨HJ.out.lt.2.2.2.1,HJ.out.lt.2.1⟩ HJ.out.js hB
end Go.Proofs.YtljefjngmembkaaGreatDoor
/- What takes a line that may be repeated; a job as it is read so far. -/
namespace Go.Proofs.YtljefjngmembkaaGreatDoor
set_option linter.all false
open Go.RowKit
/-- A job as it is read so far: its cells, its shifts in rows of its own, and what lay below Bs. -/
structure PJ (g Bs : Nat) (w0 : World) (J : Jb) (sv : Value) (w : World) : Prop where
  bk : Bk w g 30 (jobC J sv)
  own : w.ownsRow Bs 23 2 sv J.sh.length (rgCells J.sh)
  pb : PB g Bs w0 w
  lt : g < Bs ∧ Bs ≤ w.heap.size
/-- The same without the row of its shifts. -/
structure PJ0 (g Bs : Nat) (w0 : World) (J : Jb) (sv : Value) (w : World) : Prop where
  bk : Bk w g 30 (jobC J sv)
  pb : PB g Bs w0 w
  lt : g < Bs ∧ Bs ≤ w.heap.size
section
variable {g Bs : Nat} {w0 w w' : World} {J : Jb} {sv v' : Value} {x : R2}
theorem PJ.of (h : PJ g Bs w0 J sv w) {J' : Jb} (he : J'.sh = J.sh) (hb : Bk w' g 30 (jobC J' sv)) (hk : PB g w.heap.size w w') : PJ g Bs w0 J' sv w' := by
  obtain ⟨l1,l2⟩ := h.lt
  refine ⟨hb,?_,h.pb.trans hk l2,l1,Nat.le_trans l2 hk.size⟩
  rw [he]
  exact own_of' h.own (fun q hq hlt => hk.heap q hlt (by omega))
theorem PJ.below (h : PJ g Bs w0 J sv w) {B : Nat} (hb : Below B w w') (hB : w.heap.size ≤ B) : PJ g Bs w0 J sv w' :=
  h.of rfl (h.bk.below hb (by have := h.bk.lt; omega)) (PB.of (hb.mono hB))
theorem PJ.drew (h : PJ g Bs w0 J sv w) : PJ g Bs w0 J sv w.drew := h.below (Below.refl _ _).drew (Nat.le_refl _)
/-- A shift more, in its row, but not yet in the job. -/
def PJx (g Bs : Nat) (w0 : World) (J : Jb) (sv v' : Value) (x : R2) (w : World) : Prop :=
  PJ0 g Bs w0 J sv w ∧ w.ownsRow Bs 23 2 v' (J.sh ++ [x]).length (rgCells (J.sh ++ [x]))
theorem PJ.grown (h : PJ g Bs w0 J sv w) (hown : w'.ownsRow Bs 23 2 v' (J.sh.length + 1) (rgCells J.sh ++ [.int .i64 x.1,.int .i64 x.2])) (hg : w.grownBy w' sv.ownBlock) :
    PJ0 g Bs w0 J sv w' ∧ w'.ownsRow Bs 23 2 v' (J.sh ++ [x]).length (rgCells (J.sh ++ [x])) := by
  obtain ⟨l1,l2⟩ := h.lt
  have hob : ∀ q,sv.ownBlock = some q → Bs ≤ q := fun q hq => (own_block' h.own q hq).1
  have hne : ∀ q,q < Bs → some q ≠ sv.ownBlock := fun q hql e => by have := hob q e.symm; omega
  refine ⟨⟨h.bk.grown hg (hne _ l1),⟨hg.os.trans h.pb.os,hg.tape.trans h.pb.tape,hg.output.trans h.pb.output,Nat.le_trans h.pb.size hg.size,fun q hq hqb => (hg.block q (Nat.lt_of_lt_of_le hq l2) (hne q hq)).trans (h.pb.heap q hq hqb)⟩,l1,Nat.le_trans l2 hg.size⟩,?_⟩
  rw [rgCells_snoc,List.length_append]
  exact hown
theorem PJx.put (h : PJx g Bs w0 J sv v' x w) : PJ g Bs w0 { J with sh := J.sh ++ [x] } v' (w.setCell ⟨g,15,none⟩ v') := by
  obtain ⟨⟨h1,h2,l1,l2⟩,h4⟩ := h
  have hz : w.heap.size ≤ (w.setCell ⟨g,15,none⟩ v').heap.size := by simp
  refine ⟨h1.put 15 v',own_of' h4 (fun q hq _ => Below.heap_setCell w ⟨g,15,none⟩ v' q (by show q ≠ g; omega)),h2.put1 15 v',l1,Nat.le_trans l2 hz⟩
end
set_option maxHeartbeats 1000000 in
set_option maxRecDepth 100000 in
theorem take3_any (x : R2) (g Bs h o rc : Nat) (w0 : World) (J : Jb) (sv na : Value) (w : World) (hJ : PJ g Bs w0 J sv w) (hx : w.cell? ⟨h,o,none⟩ = some (.int .i64 x.1)) (hy : w.cell? ⟨h,o + 1,none⟩ = some (.int .i64 x.2)) (hm : J.sh.length ≤ 1000000) :
    Calls Tryz.prog 79 #[.pointer (some ⟨g,0,none⟩),.slice (some ⟨h,o,none⟩) 1 rc,na] w fun e w' => e = .returned (.tuple #[]) ∧ ∃ v',PJ g Bs w0 { J with sh := J.sh ++ [x] } v' w' := by
  have hX : w.cell? ⟨h,o,none⟩ = some (.int .i64 x.1) ∧ w.cell? ⟨h,o + 1,none⟩ = some (.int .i64 x.2) := ⟨hx,hy⟩
  obtain ⟨ti,ti1,ti2,ti3,ti4⟩ := infoR
  have Hi := hidMk ti1
  have Hz := hidMk ti2
  have Hsz := hidMk ti3
  have Hby := hidMk ti4
  clear hx hy ti1 ti2 ti3 ti4
  go_enter Tryz.func79,Tryz.ntmps79
  go_wp2_with fail
  refine region_via (R := fun a_ e_ a' w' => e_ = .normal ∧ ∃ (v6 v7 v8 v9 v10 v11 v12 v13 v14 v15 v16 v17 v' : Value),a' = ((((((((((((a_.put (some 6) v6).put (some 7) v7).put (some 8) v8).put (some 9) v9).put (some 10) v10).put (some 11) v11).put (some 12) v12).put (some 13) v13).put (some 14) v14).put (some 15) v15).put (some 16) v16).put (some 17) v17) ∧ PJ g Bs w0 { J with sh := J.sh ++ [x] } v' w') ?_ ?_
  rotate_left
  · rintro e_ a' w' ⟨rfl,v6,v7,v8,v9,v10,v11,v12,v13,v14,v15,v16,v17,v',rfl,h1⟩
    simp only [Act.put,aT,aZ,aS]
    have HB' := hidMk h1
    clear h1 hX hJ
    go_wp2_with fail
    refine bodyPost_end (v := .tuple #[]) (by simp [results,Tryz.results79,go_sem]) rfl ⟨rfl,v',HB'.out⟩
  have hJ_ : PJ g Bs w0 J sv w.drew := hJ.drew
  have hX_ : w.drew.cell? ⟨h,o,none⟩ = some (.int .i64 x.1) ∧ w.drew.cell? ⟨h,o + 1,none⟩ = some (.int .i64 x.2) := hX
  clear hJ hX
  have hJ := hJ_
  have hX := hX_
  clear hJ_ hX_
  refine wp_region_held_drew (S := (fun _ => True)) (by kernel_rfl) trivial (fun _ => ?_)
  generalize w.drew = wd at hJ hX ⊢
  refine wpAnyH_take (i := 0) (v := ?_) rfl (by kernel_rfl) (by kernel_rfl) (by kernel_rfl) (fun _ _ _ h => by cases h.1) (.inl ⟨by rfl,?_⟩) (by assumption) ?_
  rotate_left
  · (intro w' hSw; (try dsimp only at hSw); skip; go_simp <;> with_reducible rfl)
  (try simp only [Act.put,aT,aZ,aS])
  refine wpAnyH_take (i := 1) (v := ?_) rfl (by kernel_rfl) (by kernel_rfl) (by kernel_rfl) (fun _ _ _ h => by cases h.1) (.inl ⟨by rfl,?_⟩) (by assumption) ?_
  rotate_left
  · (intro w' hSw; (try dsimp only at hSw); skip; go_simp <;> with_reducible rfl)
  (try simp only [Act.put,aT,aZ,aS])
  refine wpAnyH_take (i := 2) (v := ?_) rfl (by kernel_rfl) (by kernel_rfl) (by kernel_rfl) (fun _ _ _ h => by cases h.1) (.inl ⟨by rfl,?_⟩) (by assumption) ?_
  rotate_left
  · (intro w' hSw; (try dsimp only at hSw); skip; go_simp <;> with_reducible rfl)
  (try simp only [Act.put,aT,aZ,aS])
  refine wpAnyH_take (i := 3) (v := ?_) rfl (by kernel_rfl) (by kernel_rfl) (by kernel_rfl) (fun _ _ _ h => by cases h.1) (.inl ⟨by rfl,?_⟩) (by assumption) ?_
  rotate_left
  · (intro w' hSw; (try dsimp only at hSw); skip; go_simp <;> with_reducible rfl)
  (try simp only [Act.put,aT,aZ,aS])
  refine wpAnyH_take (i := 5) (v := ?_) rfl (by kernel_rfl) (by kernel_rfl) (by kernel_rfl) (fun _ _ _ h => by cases h.1) (.inl ⟨by rfl,?_⟩) (by assumption) ?_
  rotate_left
  · (intro w' hSw; (try dsimp only at hSw); skip; go_simp <;> with_reducible rfl)
  (try simp only [Act.put,aT,aZ,aS])
  refine wpAnyH_take (i := 6) (v := ?_) rfl (by kernel_rfl) (by kernel_rfl) (by kernel_rfl) (fun _ _ _ h => by cases h.1) (.inl ⟨by rfl,?_⟩) (by assumption) ?_
  rotate_left
  · (intro w' hSw; (try dsimp only at hSw); skip; go_simp <;> with_reducible rfl)
  (try simp only [Act.put,aT,aZ,aS])
  refine wpAnyH_ready (rs := [4,7]) (by kernel_rfl) (by simp) ?_
  refine AllReadyH.cons rfl (fun K hK => ?_) ?_
  · have c15 := hJ.bk.at_ 15 sv rfl
    go_simp
    refine hK.out _ _ trivial (fun _ => ?_)
    clear c15
    clear hK K
    (try simp only [Act.put,aT,aZ,aS])
    refine wpAnyH_ready (rs := [7]) (by kernel_rfl) (by simp) ?_
    refine AllReadyH.cons rfl (fun K hK => ?_) ?_
    · have q0 := hX.1
      have q1 := hX.2
      go_simp
      refine hK.out _ _ trivial (fun _ => ?_)
      clear q0 q1 hX
      clear hK K
      (try simp only [Act.put,aT,aZ,aS])
      refine wpAnyH_ready (rs := [8]) (by kernel_rfl) (by simp) ?_
      refine AllReadyH.cons rfl (fun K hK => ?_) ?_
      · have hA : Bk (wd.alloc (.cells #[.int .i64 x.1,.int .i64 x.2] 23)) wd.heap.size 23 #[.int .i64 x.1,.int .i64 x.2] := Bk.new _ _ _
        have hbl : Below wd.heap.size wd (wd.alloc (.cells #[.int .i64 x.1,.int .i64 x.2] 23)) := (Below.refl _ _).alloc (Nat.le_refl _) _
        have hJ_ := hJ.below hbl (Nat.le_refl _)
        go_simp
        show K _ (wd.alloc (.cells #[.int .i64 x.1,.int .i64 x.2] 23))
        refine hK.out _ _ trivial (fun _ => ?_)
        clear hJ hbl
        have hJ := hJ_
        clear hJ_
        generalize wd.heap.size = gA at hA ⊢
        generalize (wd.alloc (.cells #[.int .i64 x.1,.int .i64 x.2] 23)) = wz at hA hJ ⊢
        clear hK K
        (try simp only [Act.put,aT,aZ,aS])
        refine wpAnyH_ready (rs := [9]) (by kernel_rfl) (by simp) ?_
        refine AllReadyH.cons rfl (fun K hK => ?_) ?_
        · refine wp_append_own (.tmp 10) (.tmp 14) 28 rfl Bs 23 ti (.agg #[.int .i64 0,.int .i64 0]) 2 16 Tryz.underlying28 Hi.out Hz.out Hsz.out Hby.out rfl (by decide) sv J.sh.length (rgCells J.sh) rfl hJ.own ⟨gA,0,none⟩ 1 1 [.int .i64 x.1,.int .i64 x.2] rfl rfl (fun j u hu => by rw [Addr.add_mid,Nat.zero_add]; exact hA.at_ j u (by simpa using hu)) (by intro u hu; simp at hu; rcases hu with rfl | rfl <;> rfl) (by unfold maxLen; omega) (by omega) hJ.lt.2 ?_
          intro v' wu own' hg' _
          obtain ⟨qb,cp,rfl⟩ : ∃ qb cp,v' = .slice (some ⟨qb,0,none⟩) (J.sh.length + 1) cp := by
            rcases own'.2 with ⟨_,h⟩ | ⟨q,cap,cur,h,_⟩
            · omega
            · exact ⟨q,cap,h⟩
          obtain ⟨hq1,hq2⟩ := hJ.grown (x := x) own' hg'
          have hS_ : PJx g Bs w0 J sv (.slice (some ⟨qb,0,none⟩) (J.sh.length + 1) cp) x wu := ⟨hq1,hq2⟩
          refine hK.out _ _ trivial (fun _ => ?_)
          clear hJ hA own' hg' hq1 hq2
          have hJ := hS_
          clear hS_
          clear hK K
          (try simp only [Act.put,aT,aZ,aS])
          refine wpAnyH_take (i := 10) (v := ?_) rfl (by kernel_rfl) (by kernel_rfl) (by kernel_rfl) (fun _ _ _ h => by cases h.1) (.inl ⟨by rfl,?_⟩) (by assumption) ?_
          rotate_left
          · (intro w' hSw; (try dsimp only at hSw); skip; go_simp <;> with_reducible rfl)
          (try simp only [Act.put,aT,aZ,aS])
          refine wpAnyH_take (i := 11) (v := ?_) rfl (by kernel_rfl) (by kernel_rfl) (by kernel_rfl) (fun _ _ _ h => by cases h.1) (.inl ⟨by rfl,?_⟩) (by assumption) ?_
          rotate_left
          · (intro w' hSw; (try dsimp only at hSw); skip; go_simp <;> with_reducible rfl)
          (try simp only [Act.put,aT,aZ,aS])
          refine wpAnyH_ready (rs := [12]) (by kernel_rfl) (by simp) ?_
          refine AllReadyH.cons rfl (fun K hK => ?_) ?_
          · have z15 := hJ.1.bk.at_ 15 sv rfl
            have f15 := hJ.1.bk.free 15
            have hJ_ := hJ.put
            go_simp
            refine hK.out _ _ trivial (fun _ => ?_)
            clear hJ z15 f15
            have hJ := hJ_
            clear hJ_
            clear hK K
            (try simp only [Act.put,aT,aZ,aS])
            refine wpAnyH_done (by kernel_rfl) ?_ _
            exact ⟨rfl,_,_,_,_,_,_,_,_,_,_,_,_,_,rfl,hJ⟩
          exact AllReadyH.nil
        exact AllReadyH.nil
      exact AllReadyH.nil
    exact AllReadyH.nil
  refine AllReadyH.cons rfl (fun K hK => ?_) ?_
  · have q0 := hX.1
    have q1 := hX.2
    go_simp
    refine hK.out _ _ trivial (fun _ => ?_)
    clear q0 q1 hX
    clear hK K
    (try simp only [Act.put,aT,aZ,aS])
    refine wpAnyH_ready (rs := [4,8]) (by kernel_rfl) (by simp) ?_
    refine AllReadyH.cons rfl (fun K hK => ?_) ?_
    · have c15 := hJ.bk.at_ 15 sv rfl
      go_simp
      refine hK.out _ _ trivial (fun _ => ?_)
      clear c15
      clear hK K
      (try simp only [Act.put,aT,aZ,aS])
      refine wpAnyH_ready (rs := [8]) (by kernel_rfl) (by simp) ?_
      refine AllReadyH.cons rfl (fun K hK => ?_) ?_
      · have hA : Bk (wd.alloc (.cells #[.int .i64 x.1,.int .i64 x.2] 23)) wd.heap.size 23 #[.int .i64 x.1,.int .i64 x.2] := Bk.new _ _ _
        have hbl : Below wd.heap.size wd (wd.alloc (.cells #[.int .i64 x.1,.int .i64 x.2] 23)) := (Below.refl _ _).alloc (Nat.le_refl _) _
        have hJ_ := hJ.below hbl (Nat.le_refl _)
        go_simp
        show K _ (wd.alloc (.cells #[.int .i64 x.1,.int .i64 x.2] 23))
        refine hK.out _ _ trivial (fun _ => ?_)
        clear hJ hbl
        have hJ := hJ_
        clear hJ_
        generalize wd.heap.size = gA at hA ⊢
        generalize (wd.alloc (.cells #[.int .i64 x.1,.int .i64 x.2] 23)) = wz at hA hJ ⊢
        clear hK K
        (try simp only [Act.put,aT,aZ,aS])
        refine wpAnyH_ready (rs := [9]) (by kernel_rfl) (by simp) ?_
        refine AllReadyH.cons rfl (fun K hK => ?_) ?_
        · refine wp_append_own (.tmp 10) (.tmp 14) 28 rfl Bs 23 ti (.agg #[.int .i64 0,.int .i64 0]) 2 16 Tryz.underlying28 Hi.out Hz.out Hsz.out Hby.out rfl (by decide) sv J.sh.length (rgCells J.sh) rfl hJ.own ⟨gA,0,none⟩ 1 1 [.int .i64 x.1,.int .i64 x.2] rfl rfl (fun j u hu => by rw [Addr.add_mid,Nat.zero_add]; exact hA.at_ j u (by simpa using hu)) (by intro u hu; simp at hu; rcases hu with rfl | rfl <;> rfl) (by unfold maxLen; omega) (by omega) hJ.lt.2 ?_
          intro v' wu own' hg' _
          obtain ⟨qb,cp,rfl⟩ : ∃ qb cp,v' = .slice (some ⟨qb,0,none⟩) (J.sh.length + 1) cp := by
            rcases own'.2 with ⟨_,h⟩ | ⟨q,cap,cur,h,_⟩
            · omega
            · exact ⟨q,cap,h⟩
          obtain ⟨hq1,hq2⟩ := hJ.grown (x := x) own' hg'
          have hS_ : PJx g Bs w0 J sv (.slice (some ⟨qb,0,none⟩) (J.sh.length + 1) cp) x wu := ⟨hq1,hq2⟩
          refine hK.out _ _ trivial (fun _ => ?_)
          clear hJ hA own' hg' hq1 hq2
          have hJ := hS_
          clear hS_
          clear hK K
          (try simp only [Act.put,aT,aZ,aS])
          refine wpAnyH_take (i := 10) (v := ?_) rfl (by kernel_rfl) (by kernel_rfl) (by kernel_rfl) (fun _ _ _ h => by cases h.1) (.inl ⟨by rfl,?_⟩) (by assumption) ?_
          rotate_left
          · (intro w' hSw; (try dsimp only at hSw); skip; go_simp <;> with_reducible rfl)
          (try simp only [Act.put,aT,aZ,aS])
          refine wpAnyH_take (i := 11) (v := ?_) rfl (by kernel_rfl) (by kernel_rfl) (by kernel_rfl) (fun _ _ _ h => by cases h.1) (.inl ⟨by rfl,?_⟩) (by assumption) ?_
          rotate_left
          · (intro w' hSw; (try dsimp only at hSw); skip; go_simp <;> with_reducible rfl)
          (try simp only [Act.put,aT,aZ,aS])
          refine wpAnyH_ready (rs := [12]) (by kernel_rfl) (by simp) ?_
          refine AllReadyH.cons rfl (fun K hK => ?_) ?_
          · have z15 := hJ.1.bk.at_ 15 sv rfl
            have f15 := hJ.1.bk.free 15
            have hJ_ := hJ.put
            go_simp
            refine hK.out _ _ trivial (fun _ => ?_)
            clear hJ z15 f15
            have hJ := hJ_
            clear hJ_
            clear hK K
            (try simp only [Act.put,aT,aZ,aS])
            refine wpAnyH_done (by kernel_rfl) ?_ _
            exact ⟨rfl,_,_,_,_,_,_,_,_,_,_,_,_,_,rfl,hJ⟩
          exact AllReadyH.nil
        exact AllReadyH.nil
      exact AllReadyH.nil
    refine AllReadyH.cons rfl (fun K hK => ?_) ?_
    · have hA : Bk (wd.alloc (.cells #[.int .i64 x.1,.int .i64 x.2] 23)) wd.heap.size 23 #[.int .i64 x.1,.int .i64 x.2] := Bk.new _ _ _
      have hbl : Below wd.heap.size wd (wd.alloc (.cells #[.int .i64 x.1,.int .i64 x.2] 23)) := (Below.refl _ _).alloc (Nat.le_refl _) _
      have hJ_ := hJ.below hbl (Nat.le_refl _)
      go_simp
      show K _ (wd.alloc (.cells #[.int .i64 x.1,.int .i64 x.2] 23))
      refine hK.out _ _ trivial (fun _ => ?_)
      clear hJ hbl
      have hJ := hJ_
      clear hJ_
      generalize wd.heap.size = gA at hA ⊢
      generalize (wd.alloc (.cells #[.int .i64 x.1,.int .i64 x.2] 23)) = wz at hA hJ ⊢
      clear hK K
      (try simp only [Act.put,aT,aZ,aS])
      refine wpAnyH_ready (rs := [4]) (by kernel_rfl) (by simp) ?_
      refine AllReadyH.cons rfl (fun K hK => ?_) ?_
      · have c15 := hJ.bk.at_ 15 sv rfl
        go_simp
        refine hK.out _ _ trivial (fun _ => ?_)
        clear c15
        clear hK K
        (try simp only [Act.put,aT,aZ,aS])
        refine wpAnyH_ready (rs := [9]) (by kernel_rfl) (by simp) ?_
        refine AllReadyH.cons rfl (fun K hK => ?_) ?_
        · refine wp_append_own (.tmp 10) (.tmp 14) 28 rfl Bs 23 ti (.agg #[.int .i64 0,.int .i64 0]) 2 16 Tryz.underlying28 Hi.out Hz.out Hsz.out Hby.out rfl (by decide) sv J.sh.length (rgCells J.sh) rfl hJ.own ⟨gA,0,none⟩ 1 1 [.int .i64 x.1,.int .i64 x.2] rfl rfl (fun j u hu => by rw [Addr.add_mid,Nat.zero_add]; exact hA.at_ j u (by simpa using hu)) (by intro u hu; simp at hu; rcases hu with rfl | rfl <;> rfl) (by unfold maxLen; omega) (by omega) hJ.lt.2 ?_
          intro v' wu own' hg' _
          obtain ⟨qb,cp,rfl⟩ : ∃ qb cp,v' = .slice (some ⟨qb,0,none⟩) (J.sh.length + 1) cp := by
            rcases own'.2 with ⟨_,h⟩ | ⟨q,cap,cur,h,_⟩
            · omega
            · exact ⟨q,cap,h⟩
          obtain ⟨hq1,hq2⟩ := hJ.grown (x := x) own' hg'
          have hS_ : PJx g Bs w0 J sv (.slice (some ⟨qb,0,none⟩) (J.sh.length + 1) cp) x wu := ⟨hq1,hq2⟩
          refine hK.out _ _ trivial (fun _ => ?_)
          clear hJ hA own' hg' hq1 hq2
          have hJ := hS_
          clear hS_
          clear hK K
          (try simp only [Act.put,aT,aZ,aS])
          refine wpAnyH_take (i := 10) (v := ?_) rfl (by kernel_rfl) (by kernel_rfl) (by kernel_rfl) (fun _ _ _ h => by cases h.1) (.inl ⟨by rfl,?_⟩) (by assumption) ?_
          rotate_left
          · (intro w' hSw; (try dsimp only at hSw); skip; go_simp <;> with_reducible rfl)
          (try simp only [Act.put,aT,aZ,aS])
          refine wpAnyH_take (i := 11) (v := ?_) rfl (by kernel_rfl) (by kernel_rfl) (by kernel_rfl) (fun _ _ _ h => by cases h.1) (.inl ⟨by rfl,?_⟩) (by assumption) ?_
          rotate_left
          · (intro w' hSw; (try dsimp only at hSw); skip; go_simp <;> with_reducible rfl)
          (try simp only [Act.put,aT,aZ,aS])
          refine wpAnyH_ready (rs := [12]) (by kernel_rfl) (by simp) ?_
          refine AllReadyH.cons rfl (fun K hK => ?_) ?_
          · have z15 := hJ.1.bk.at_ 15 sv rfl
            have f15 := hJ.1.bk.free 15
            have hJ_ := hJ.put
            go_simp
            refine hK.out _ _ trivial (fun _ => ?_)
            clear hJ z15 f15
            have hJ := hJ_
            clear hJ_
            clear hK K
            (try simp only [Act.put,aT,aZ,aS])
            refine wpAnyH_done (by kernel_rfl) ?_ _
            exact ⟨rfl,_,_,_,_,_,_,_,_,_,_,_,_,_,rfl,hJ⟩
          exact AllReadyH.nil
        exact AllReadyH.nil
      exact AllReadyH.nil
    exact AllReadyH.nil
  exact AllReadyH.nil
end Go.Proofs.YtljefjngmembkaaGreatDoor
