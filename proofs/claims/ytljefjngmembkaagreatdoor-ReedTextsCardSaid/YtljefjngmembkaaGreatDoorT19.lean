/- Part 19 of the proof: TxQ, TxR. -/
import Derived.Maps.AppendAt
import Derived.Test.YtljefjngmembkaaGreatDoorT18
namespace Go.Proofs.YtljefjngmembkaaGreatDoor
set_option linter.all false
open Go.RowKit
theorem infoNum : (Tryz.prog.info? 3).map (fun i => (i.zero,i.size,i.bytes)) = some (some (.int .i64 0),1,8) := by kernel_rfl
def Far (r : Nat) (tl : List (List UInt8)) (i : Nat) (ss : List R2) (ns : List Int) : Prop := rdParts r tl = (rdParts (r - i) (tl.drop i)).map fun q => (ss ++ q.1,ns ++ q.2)
theorem own_lo {w : World} {B B' e s n : Nat} {v : Value} {xs : List Value} (h : w.ownsRow B e s v n xs) (hB : B' ≤ B) : w.ownsRow B' e s v n xs :=
  ⟨h.1,h.2.imp id fun ⟨g,cap,cur,a,b,c⟩ => ⟨g,cap,cur,a,Nat.le_trans hB b,c⟩⟩
def APQ (word : ByteArray) (r n : Nat) (l : List ByteArray) (T : List R2 → List Int → World → World → Prop) (w : World) (e : Ending) (w' : World) : Prop :=
  (ap word.data.toList r n (bytes l) = none → e = .returned (.bool false) ∧ Below w.heap.size w w') ∧
  ∀ ss ns,ap word.data.toList r n (bytes l) = some (ss,ns) → e = .returned (.bool true) ∧ ∃ w1,Below w.heap.size w w1 ∧ T ss ns w1 w'
theorem APQ.no {word : ByteArray} {r n : Nat} {l : List ByteArray} {T : List R2 → List Int → World → World → Prop} {w w' : World} (h : ap word.data.toList r n (bytes l) = none) (hb : Below w.heap.size w w') : APQ word r n l T w (.returned (.bool false)) w' :=
  ⟨fun _ => ⟨rfl,hb⟩,fun ss ns e => by rw [h] at e; cases e⟩
theorem APQ.yes {word : ByteArray} {r n : Nat} {l : List ByteArray} {T : List R2 → List Int → World → World → Prop} {w w1 w' : World} {ss : List R2} {ns : List Int} (h : ap word.data.toList r n (bytes l) = some (ss,ns)) (hb : Below w.heap.size w w1) (hT : T ss ns w1 w') : APQ word r n l T w (.returned (.bool true)) w' :=
  ⟨(fun e => by rw [h] at e; cases e),fun s2 n2 e => by rw [h] at e; cases e; exact ⟨rfl,w1,hb,hT⟩⟩
theorem ap_len {word : List UInt8} {r n : Nat} {l : List ByteArray} (h : l.length ≠ 1 + r + n) : ap word r n (bytes l) = none := by
  unfold ap
  rw [if_neg]
  rintro ⟨h1,_⟩
  rw [List.length_map] at h1
  exact h h1
theorem ap_word {word x0 : ByteArray} {r n : Nat} {l : List ByteArray} (h0 : l[0]? = some x0) (h : (!(x0.toList == word.toList)) = true) : ap word.data.toList r n (bytes l) = none := by
  unfold ap
  rw [if_neg]
  rintro ⟨_,h1⟩
  rw [List.head?_map,List.head?_eq_getElem?,h0] at h1
  simp only [Option.map_some,Option.some.injEq] at h1
  rw [ByteArray.toList_eq,ByteArray.toList_eq,h1] at h
  simp at h
theorem ap_same {word x0 : ByteArray} {r n : Nat} {l : List ByteArray} (hl : l.length = 1 + r + n) (h0 : l[0]? = some x0) (h : (!(x0.toList == word.toList)) = false) : ap word.data.toList r n (bytes l) = rdParts r (bytes l).tail := by
  unfold ap
  rw [if_pos]
  refine ⟨by rw [List.length_map]; exact hl,?_⟩
  rw [List.head?_map,List.head?_eq_getElem?,h0]
  simp only [Option.map_some,Option.some.injEq]
  rw [ByteArray.toList_eq,ByteArray.toList_eq] at h
  simpa using h
theorem tail_at {l : List ByteArray} {i : Nat} {x : ByteArray} (h : l[i + 1]? = some x) : (bytes l).tail[i]? = some x.data.toList := by
  rw [List.getElem?_tail,List.getElem?_map,h]
  rfl
set_option maxHeartbeats 2000000 in
set_option maxRecDepth 1000000 in
theorem apply_any (word : ByteArray) (rep : Bool) (r n m fid g : Nat) (bp o c : Nat) (l : List ByteArray) (w : World) (hl : LibW w) (hss : Ss w w.heap.size bp o l) (hm : l.length = m + 1) (hc : m + 1 ≤ c + 1) (hr : r ≤ 1000 ∧ n ≤ 1000 ∧ l.length ≤ 1000000) (h1 : 1 ≤ r + n) (hz : ∀ x ∈ l,x.size ≤ 1000000)
    (T : List R2 → List Int → World → World → Prop)
    (hE : ∀ args w,(callFunc fid args).run Tryz.prog w = .ok (.enter fid args) w)
    (HT : ∀ ss ns ra rc nv w1,Below w.heap.size w w1 → ss.length = r → ns.length = n → (∀ q o,ra = some ⟨q,o,none⟩ → w.heap.size + 1 ≤ q) → Rg w1 w1.heap.size ra ss → w1.ownsRow (w.heap.size + 1) 3 1 nv n (ns.map (Value.int .i64)) →
      Calls Tryz.prog fid #[.pointer (some ⟨g,0,none⟩),.slice ra r rc,nv] w1 fun e w' => e = .returned (.tuple #[]) ∧ T ss ns w1 w') :
    Calls Tryz.prog 60 #[(.agg (rlC word rep r n (.func (.func fid) #[] #[]))),.pointer (some ⟨g,0,none⟩),.slice (some ⟨bp,o,none⟩) (m + 1) (c + 1)] w (APQ word r n l T w) := by
  have HL := hidMk hl
  have HE := hidMk hE
  have HT' := hidMk HT
  have HZ := hidMk hz
  have HR := hidMk hr
  have HM := hidMk hm
  have HS0 : Hid (AW word rep r n (.func (.func fid) #[] #[]) bp o l w (w.alloc (.cells (rlC word rep r n (.func (.func fid) #[] #[])) 116))) := hidMk ⟨below0 w _,Bk.new w _ _,hss⟩
  clear hl HT hz hss hr hE
  obtain ⟨ti,ti1,ti2,ti3,ti4⟩ := infoR
  have Hi := hidMk ti1
  have Hz := hidMk ti2
  have Hs := hidMk ti3
  have Hb := hidMk ti4
  obtain ⟨tj,tj1,tj2,tj3,tj4⟩ := info_parts infoNum
  have Hj := hidMk tj1
  have Hjz := hidMk tj2
  have Hjs := hidMk tj3
  have Hjb := hidMk tj4
  clear ti1 ti2 ti3 ti4 tj1 tj2 tj3 tj4
  obtain ⟨x0,hx0⟩ : ∃ x,l[0]? = some x := ⟨l[0],List.getElem?_eq_getElem (by omega)⟩
  have HX0 := hidMk hx0
  clear hx0 hm
  go_enter Tryz.func60,Tryz.ntmps60
  go_wp2_with fail
  by_cases hlen : l.length = 1 + r + n
  · obtain ⟨bq,hq⟩ : ∃ b,(!(x0.toList == word.toList)) = b := ⟨_,rfl⟩
    have HQ := hidMk hq
    clear hq
    have HLN := hidMk hlen
    have hmm : m = r + n := by have := HM.out; omega
    have HMM := hidMk hmm
    have hm1 : 1 ≤ m := by omega
    clear hmm
    rw [← HM.out]
    refine apr1e HS0.out HR.out hlen HX0.out HQ.out ?_
    intro w2 h2
    intros
    have HW2 := hidMk h2
    clear h2 hlen
    rw [HM.out]
    cases bq with
    | true =>
      go_wp2_with fail
      refine bodyPost_ret (v := .bool false) (by simp [results,Tryz.results60,go_sem]) rfl ?_
      exact APQ.no (ap_word HX0.out HQ.out) HW2.out.below
    | false =>
      have hcc : ¬ c + 1 = 1 := by omega
      go_wp2_with fail
      have HHX := HW2.out.bk.lt
      refine wp_loop (fun a_ wr => ∃ (u4 u5 u6 u9 A0 A1 A2 A3 A4 A5 A6 A7 A8 A9 Aa Ab Ac Ad Ae Af Ag Ah Ai Aj Ak Al Am Aq Ar As At Au Av Aw Ax Ay Az C0 C1 C2 C3 C4 C5 C6 C7 C8 C9 Ca Cb Cc Cd Ce Cf Cg Ch Ci Cj Ck Cl Cm Cn Co Cp Cq : Value) (i : Nat) (ss : List R2) (ns : List Int) (rv nv : Value),i ≤ m ∧ Hid (AW word rep r n (.func (.func fid) #[] #[]) bp o l w wr) ∧ Hid (Rows r (w.heap.size + 1) i ss ns rv nv wr) ∧ Hid (Far r (bytes l).tail i ss ns) ∧ a_ = ⟨#[(.agg (rlC word rep r n (.func (.func fid) #[] #[]))),(.pointer (some ⟨g,0,none⟩)),(.slice (some ⟨bp,o,none⟩) (m + 1) (c + 1)),(.pointer (some ⟨w.heap.size,0,none⟩)),u4,u5,u6,rv,nv,u9,A0,A1,A2,A3,A4,A5,A6,A7,A8,A9,Aa,Ab,Ac,Ad,Ae,Af,Ag,Ah,Ai,Aj,Ak,Al,Am,(.slice (some ⟨bp,o + 1,none⟩) m c),(.int .i64 m),(.int .i64 i),Aq,Ar,As,At,Au,Av,Aw,Ax,Ay,Az,C0,C1,C2,C3,C4,C5,C6,C7,C8,C9,Ca,Cb,Cc,Cd,Ce,Cf,Cg,Ch,Ci,Cj,Ck,Cl,Cm,Cn,Co,Cp,Cq],[]⟩) (fun a_ _ => m - (intOf (a_.tmps.getD 35 undef)).toNat) ?_ ?_
      · exact ⟨_,_,_,_,_,_,_,_,_,_,_,_,_,_,_,_,_,_,_,_,_,_,_,_,_,_,_,_,_,_,_,_,_,_,_,_,_,_,_,_,_,_,_,_,_,_,_,_,_,_,_,_,_,_,_,_,_,_,_,_,_,_,_,_,0,[],[],_,_,Nat.zero_le _,HW2,hidMk (Rows.begin r HHX),hidMk (rdParts_begin _ _),rfl⟩
      · intro a_ wr hx
        obtain ⟨u4,hx⟩ := hx
        obtain ⟨u5,hx⟩ := hx
        obtain ⟨u6,hx⟩ := hx
        obtain ⟨u9,hx⟩ := hx
        obtain ⟨A0,hx⟩ := hx
        obtain ⟨A1,hx⟩ := hx
        obtain ⟨A2,hx⟩ := hx
        obtain ⟨A3,hx⟩ := hx
        obtain ⟨A4,hx⟩ := hx
        obtain ⟨A5,hx⟩ := hx
        obtain ⟨A6,hx⟩ := hx
        obtain ⟨A7,hx⟩ := hx
        obtain ⟨A8,hx⟩ := hx
        obtain ⟨A9,hx⟩ := hx
        obtain ⟨Aa,hx⟩ := hx
        obtain ⟨Ab,hx⟩ := hx
        obtain ⟨Ac,hx⟩ := hx
        obtain ⟨Ad,hx⟩ := hx
        obtain ⟨Ae,hx⟩ := hx
        obtain ⟨Af,hx⟩ := hx
        obtain ⟨Ag,hx⟩ := hx
        obtain ⟨Ah,hx⟩ := hx
        obtain ⟨Ai,hx⟩ := hx
        obtain ⟨Aj,hx⟩ := hx
        obtain ⟨Ak,hx⟩ := hx
        obtain ⟨Al,hx⟩ := hx
        obtain ⟨Am,hx⟩ := hx
        obtain ⟨Aq,hx⟩ := hx
        obtain ⟨Ar,hx⟩ := hx
        obtain ⟨As,hx⟩ := hx
        obtain ⟨At,hx⟩ := hx
        obtain ⟨Au,hx⟩ := hx
        obtain ⟨Av,hx⟩ := hx
        obtain ⟨Aw,hx⟩ := hx
        obtain ⟨Ax,hx⟩ := hx
        obtain ⟨Ay,hx⟩ := hx
        obtain ⟨Az,hx⟩ := hx
        obtain ⟨C0,hx⟩ := hx
        obtain ⟨C1,hx⟩ := hx
        obtain ⟨C2,hx⟩ := hx
        obtain ⟨C3,hx⟩ := hx
        obtain ⟨C4,hx⟩ := hx
        obtain ⟨C5,hx⟩ := hx
        obtain ⟨C6,hx⟩ := hx
        obtain ⟨C7,hx⟩ := hx
        obtain ⟨C8,hx⟩ := hx
        obtain ⟨C9,hx⟩ := hx
        obtain ⟨Ca,hx⟩ := hx
        obtain ⟨Cb,hx⟩ := hx
        obtain ⟨Cc,hx⟩ := hx
        obtain ⟨Cd,hx⟩ := hx
        obtain ⟨Ce,hx⟩ := hx
        obtain ⟨Cf,hx⟩ := hx
        obtain ⟨Cg,hx⟩ := hx
        obtain ⟨Ch,hx⟩ := hx
        obtain ⟨Ci,hx⟩ := hx
        obtain ⟨Cj,hx⟩ := hx
        obtain ⟨Ck,hx⟩ := hx
        obtain ⟨Cl,hx⟩ := hx
        obtain ⟨Cm,hx⟩ := hx
        obtain ⟨Cn,hx⟩ := hx
        obtain ⟨Co,hx⟩ := hx
        obtain ⟨Cp,hx⟩ := hx
        obtain ⟨Cq,hx⟩ := hx
        obtain ⟨i,ss,ns,rv,nv,him,HWr,HRo,HFa,ha⟩ := hx
        subst ha
        clear HW2 HS0 HHX
        have wy : IntKind.i64.wrap ((i : Int) + 1) = (i : Int) + 1 := IntWalk.i64_in _ (by have := HR.out; have := HM.out; omega)
        have HWY := hidMk wy
        clear wy
        have hB1 : w.heap.size + 1 ≤ wr.heap.size := HRo.out.2.2.1
        by_cases hlt : i < m
        · obtain ⟨x,hx1⟩ : ∃ x,l[i + 1]? = some x := ⟨l[i + 1]'(by have := HM.out; omega),List.getElem?_eq_getElem (by have := HM.out; omega)⟩
          have hxz := HZ.out x (List.mem_of_getElem? hx1)
          have HXT := hidMk (tail_at hx1)
          have cx : wr.cell? ⟨bp,o + 1 + i,none⟩ = some (.string x) := by have := HWr.out.part hx1; rwa [show o + (i + 1) = o + 1 + i by omega] at this
          have q2 := HWr.out.bk.at_ 2 (.int .i64 r) rfl
          have hi1 : (i : Int) < (m : Int) := by omega
          clear hx1
          by_cases hir : i < r
          · have hir' : (i : Int) < (r : Int) := by omega
            go_wp2_with fail
            refine (readSpan_any x hxz _ (HL.out.up HWr.out.below)).mono ?_
            rintro e w5 ⟨hb5,v,u,bb,rfl,hrd⟩
            have HW5 := hidMk (HWr.out.next hb5)
            have HR5 := hidMk (HRo.out.next hb5)
            have HGO := hidMk (rdParts_go_r HFa.out hir HXT.out)
            have HRD := hidMk hrd
            have HB5 := hidMk (Nat.le_trans hB1 hb5.size)
            clear hb5 hrd cx q2 HWr HRo hB1
            cases bb with
            | false =>
              go_wp2_with fail
              refine bodyPost_ret (v := .bool false) (by simp [results,Tryz.results60,go_sem]) rfl ?_
              exact APQ.no ((ap_same HLN.out HX0.out HQ.out).trans (HGO.out.1 HRD.out)) (HW5.out.below.alloc HW5.out.below.size _)
            | true =>
              obtain ⟨hns,hnv,hown⟩ := HR5.out.own hir
              subst hns hnv
              have HO := hidMk hown
              clear hown
              have hl2 : ss.length + 1 ≤ 100000 := by have h1 := HR5.out.1; have h2 := HR.out; omega
              have wy := HWY.out
              go_wp2_with (at_builtin; refine wpList_append_own_at _ rfl (.tmp 51) (.tmp 53) 28 rfl (w.heap.size + 1) 23 ti (.agg #[.int .i64 0,.int .i64 0]) 2 16 Tryz.underlying28 Hi.out Hz.out Hs.out Hb.out rfl (by decide) rv ss.length (rgCells ss) rfl ((HO.out.alloc _).alloc _) ⟨w5.heap.size + 1,0,none⟩ 1 1 [.int .i64 v,.int .i64 u] rfl rfl (fun j y hy => by rw [Addr.add_mid,Nat.zero_add]; exact (Bk.newAt _ 23 #[.int .i64 v,.int .i64 u] _ (by simp)).at_ j y (by simpa using hy)) (by intro y hy; simp at hy; rcases hy with rfl | rfl <;> rfl) (by unfold maxLen; omega) (by omega) (by have := HB5.out; simp; omega) ?_; intro v' w3 own' hg _ at_)
              have HO3 := hidMk own'
              have HG3 := hidMk hg
              have hws : w5.heap.size ≤ w3.heap.size := by have := hg.size; simp at this; omega
              clear own' hg at_
              go_wp2_with fail
              have e1 : ((i + 1 : Nat) : Int) = (i : Int) + 1 := by push_cast; rfl
              refine ⟨⟨_,_,_,_,_,_,_,_,_,_,_,_,_,_,_,_,_,_,_,_,_,_,_,_,_,_,_,_,_,_,_,_,_,_,_,_,_,_,_,_,_,_,_,_,_,_,_,_,_,_,_,_,_,_,_,_,_,_,_,_,_,_,_,_,i + 1,ss ++ [(v,u)],[],v',_,by omega,hidMk ?_,hidMk ⟨?_,?_,?_,.inl ⟨hir,rfl,rfl,?_⟩⟩,hidMk (HGO.out.2 _ HRD.out),by rw [e1]⟩,by simp [intOf]; omega⟩
              · exact ((HW5.out.next (below0 _ _)).next (below0 _ _)).grown HG3.out fun q e => (own_block' HO.out q e).1
              · have h1 := HR5.out.1
                rw [List.length_append,List.length_singleton]
                omega
              · simp; omega
              · exact Nat.le_trans HB5.out hws
              · rw [rgCells_snoc,List.length_append]
                exact HO3.out
          · skip
            obtain ⟨B2,ra,rc,e0,hq0,hrg,hB2,hB3,hown⟩ := HRo.out.turn (by omega)
            subst e0
            go_wp2_with fail
            refine (readNumber_any x hxz _ (HL.out.up HWr.out.below)).mono ?_
            rintro e w5 ⟨hb5,v,bb,rfl,hrd⟩
            have HW5 := hidMk (HWr.out.next hb5)
            have HGO := hidMk (rdParts_go_n HFa.out (by omega) HXT.out)
            have HRD := hidMk hrd
            have HO := hidMk (own_of' hown (fun q _ hl => hb5.block q hl) : w5.ownsRow B2 3 1 nv ns.length (ns.map (Value.int .i64)))
            have HRG := hidMk (hrg.below (hb5.mono hB3))
            have HQ0 := hidMk (And.intro hq0 (And.intro hB2 (Nat.le_trans hB3 hb5.size)))
            have HLN2 := hidMk (And.intro HRo.out.1 HRo.out.2.1)
            clear hb5 hrd cx q2 HWr HRo hB1 hq0 hrg hB2 hB3 hown
            cases bb with
            | false =>
              go_wp2_with fail
              refine bodyPost_ret (v := .bool false) (by simp [results,Tryz.results60,go_sem]) rfl ?_
              exact APQ.no ((ap_same HLN.out HX0.out HQ.out).trans (HGO.out.1 HRD.out)) HW5.out.below
            | true =>
              have hl2 : ns.length + 1 ≤ 100000 := by have h1 := HLN2.out.2; have h2 := HR.out; have := HMM.out; omega
              have wy := HWY.out
              go_wp2_with (at_builtin; refine wpList_append_own_at _ rfl (.tmp 62) (.tmp 64) 31 rfl B2 3 tj (.int .i64 0) 1 8 Tryz.underlying31 Hj.out Hjz.out Hjs.out Hjb.out rfl (by decide) nv ns.length (ns.map (Value.int .i64)) rfl (HO.out.alloc _) ⟨w5.heap.size,0,none⟩ 1 1 [.int .i64 v] rfl rfl (fun j y hy => by rw [Addr.add_mid,Nat.zero_add]; exact (Bk.new w5 3 #[.int .i64 v]).at_ j y (by simpa using hy)) (by intro y hy; simp at hy; subst hy; rfl) (by unfold maxLen; omega) (by omega) (by have := HQ0.out.2.2; simp; omega) ?_; intro v' w3 own' hg _ at_)
              have HO3 := hidMk own'
              have HG3 := hidMk hg
              have hws : w5.heap.size ≤ w3.heap.size := by have := hg.size; simp at this; omega
              clear own' hg at_
              go_wp2_with fail
              have e1 : ((i + 1 : Nat) : Int) = (i : Int) + 1 := by push_cast; rfl
              refine ⟨⟨_,_,_,_,_,_,_,_,_,_,_,_,_,_,_,_,_,_,_,_,_,_,_,_,_,_,_,_,_,_,_,_,_,_,_,_,_,_,_,_,_,_,_,_,_,_,_,_,_,_,_,_,_,_,_,_,_,_,_,_,_,_,_,_,i + 1,ss,ns ++ [v],_,v',by omega,hidMk ?_,hidMk ⟨?_,?_,?_,.inr ⟨by omega,B2,ra,rc,rfl,HQ0.out.1,?_,HQ0.out.2.1,?_,?_⟩⟩,hidMk (HGO.out.2 _ HRD.out),by rw [e1]⟩,by simp [intOf]; omega⟩
              · exact (HW5.out.next (below0 _ _)).grown HG3.out fun q e => Nat.le_trans HQ0.out.2.1 (own_block' HO.out q e).1
              · have h1 := HLN2.out.1
                omega
              · have h1 := HLN2.out.2
                rw [List.length_append,List.length_singleton]
                omega
              · exact Nat.le_trans HQ0.out.2.1 (Nat.le_trans HQ0.out.2.2 hws)
              · exact HRG.out.below ((((Below.refl B2 w5).alloc HQ0.out.2.2 _)).grown HG3.out (by have := HQ0.out.2.2; simp; omega) fun q e => (own_block' HO.out q e).1)
              · exact Nat.le_trans HQ0.out.2.2 hws
              · rw [List.map_append,List.length_append]
                exact HO3.out
        · skip
          obtain rfl : i = m := by omega
          have hri : r ≤ i := by have := HMM.out; omega
          obtain ⟨B2,ra,rc,e0,hq0,hrg,hB2,hB3,hown⟩ := HRo.out.turn hri
          have hsr : ss.length = r := by have := HRo.out.1; omega
          have hnn : ns.length = n := by have := HRo.out.2.1; have := HMM.out; omega
          subst e0
          have HAP := hidMk ((ap_same HLN.out HX0.out HQ.out).trans (rdParts_end HFa.out (by rw [List.length_tail,List.length_map]; have := HM.out; omega)))
          have HCA := hidMk (HT'.out ss ns ra rc nv wr HWr.out.below hsr hnn hq0 (hrg.keep hB3 fun _ _ => rfl) (by rw [← hnn]; exact own_lo hown hB2))
          rw [← hsr] at HCA
          have q4 := HWr.out.bk.at_ 4 (.func (.func fid) #[] #[]) rfl
          have hlt' : ¬ (i : Int) < (i : Int) := by omega
          have hE := HE.out
          clear hsr hnn hq0 hrg hB2 hB3 hown hri
          go_wp2_with fail
          refine (HCA.out).mono ?_
          rintro e w9 ⟨rfl,hT⟩
          have HTT := hidMk hT
          clear hT q4 hE
          go_wp2_with fail
          refine bodyPost_ret (v := .bool true) (by simp [results,Tryz.results60,go_sem]) rfl ?_
          exact APQ.yes HAP.out HWr.out.below HTT.out
  · rw [← HM.out]
    refine apr1n HS0.out HR.out hlen ?_
    intro w2 h2
    intros
    have HW2 := hidMk h2
    clear h2
    have HLE := hidMk (ap_len (word := word.data.toList) hlen)
    clear hlen
    go_wp2_with fail
    refine bodyPost_ret (v := .bool false) (by simp [results,Tryz.results60,go_sem]) rfl ?_
    exact APQ.no HLE.out HW2.out.below
end Go.Proofs.YtljefjngmembkaaGreatDoor
namespace Go.Proofs.YtljefjngmembkaaGreatDoor
set_option linter.all false
open Go.RowKit Go.Lib
theorem join_part (c : UInt8) : ∀ (ps : List (List UInt8)) (p : List UInt8),p ∈ ps → p.length ≤ (join ps [c]).length
  | [],p,h => by cases h
  | [x],p,h => by
    rw [List.mem_singleton.1 h,join_one]
    exact Nat.le_refl _
  | x :: y :: r,p,h => by
    rw [Tx.join_two,List.length_append,List.length_cons]
    rcases List.mem_cons.1 h with rfl | h
    · omega
    · have := join_part c (y :: r) p h
      omega
theorem split_any (s : ByteArray) (hs : s.size ≤ 1000) (w : World) (h : LibW w) :
    Calls Tryz.prog 59 #[.string s,.string ⟨#[32]⟩] w fun e w' => ∃ (l : List ByteArray) (m : Nat),l.length = m + 1 ∧ bytes l = split s.data.toList [32] ∧ (∀ x ∈ l,x.size ≤ 1000000) ∧ l.length ≤ 1000000 ∧ e = .returned (.slice (some ⟨w.heap.size,0,none⟩) (m + 1) (m + 1)) ∧ Ss w' w'.heap.size w.heap.size 0 l ∧ Below w.heap.size w w' := by
  obtain ⟨mx,hm⟩ := h.max
  refine (Tryz.strings_Split s ⟨#[32]⟩ mx w (by omega) hm (by decide)).mono ?_
  rintro e w' ⟨rfl,rfl⟩
  have e1 : (⟨#[32]⟩ : ByteArray).data.toList = [32] := rfl
  have hd := splitB_data ⟨#[32]⟩ 0 (countB s ⟨#[32]⟩) s
  have hl := splitB_all ⟨#[32]⟩ (by decide) 0 (countB s ⟨#[32]⟩) s rfl
  have hle := countB_le ⟨#[32]⟩ (by decide) s.size s (Nat.le_refl _)
  have hb : bytes (splitB ⟨#[32]⟩ 0 (countB s ⟨#[32]⟩) s) = split s.data.toList [32] := hd
  refine ⟨_,_,hl,hb,?_,by omega,rfl,⟨by simp,fun k x hx => ?_⟩,below0 w _⟩
  · intro x hx
    have h1 : x.data.toList ∈ split s.data.toList [32] := by rw [← hb]; exact List.mem_map_of_mem hx
    have h2 := join_part 32 _ _ h1
    rw [Tx.join_split'] at h2
    have h3 : x.data.toList.length = x.size := rfl
    have h4 : s.data.toList.length = s.size := rfl
    omega
  · rw [Nat.zero_add]
    exact (Bk.new w _ _).at_ k _ (by simp [hx])
theorem results_row_two {P : Program} {fn : Func} {p u v : Tmp} {ty : TypeId} {fs : Array Field} (h : fn.results = #[.cell p ty,.tmp u,.tmp v]) (tmps : Array Value) (w : World) (g : Nat) (t : TypeId) (cs : Array Value) (x y : Value)
    (hp : tmps.getD p undef = .pointer (some ⟨g,0,none⟩)) (hv : tmps.getD u undef = x) (hv2 : tmps.getD v undef = y) (hg : Bk w g t cs)
    (hu : P.underlying ty = some (.struct fs)) (hi : (P.info? ty).map (·.size) = some cs.size) :
    (results fn tmps).run P w = .ok (.tuple #[.agg cs,x,y]) w := by
  have hp' : tmps[p]?.getD undef = .pointer (some ⟨g,0,none⟩) := by simpa using hp
  have hv' : tmps[u]?.getD undef = x := by simpa using hv
  have hv2' : tmps[v]?.getD undef = y := by simpa using hv2
  simp [results,h,hp',hv',hv2',asAddr,run_loadVar_row w g t ty cs (0,0) _ hg hu rfl hi]
section
variable {text a b : List UInt8} {J : Jb} {ss : List R2} {ns : List Int} {p t r u d x y s : R2} {le i j : Int} {line fuel : Nat}
theorem parse0_no (h : cut text [10] = (a,b,false)) : parseJ text = (zeroJb,1) := by unfold parseJ; rw [h]; rfl
theorem parse0_bad (h : cut text [10] = (a,b,true)) (h2 : ap tongueW 3 0 (split a [32]) = none) : parseJ text = (zeroJb,1) := by unfold parseJ; rw [h]; simp only [h2,if_true]
theorem parse0_go (h : cut text [10] = (a,b,true)) (h2 : ap tongueW 3 0 (split a [32]) = some ([p,t,r],ns)) : parseJ text = ps1 { zeroJb with p1 := p.1,p2 := p.2,t1 := t.1,t2 := t.2,r1 := r.1,r2 := r.2 } b := by unfold parseJ; rw [h]; simp only [h2,if_true]
theorem parse1_no (h : cut text [10] = (a,b,false)) : ps1 J text = (J,2) := by unfold ps1; rw [h]; rfl
theorem parse1_bad (h : cut text [10] = (a,b,true)) (h2 : ap fileW 4 1 (split a [32]) = none) : ps1 J text = (J,2) := by unfold ps1; rw [h]; simp only [h2,if_true]
theorem parse1_go (h : cut text [10] = (a,b,true)) (h2 : ap fileW 4 1 (split a [32]) = some ([u,d,x,y],[le])) : ps1 J text = ps2 (b.length + 1) { J with u1 := u.1,u2 := u.2,d1 := d.1,d2 := d.2,x1 := x.1,x2 := x.2,y1 := y.1,y2 := y.2,le := le } b 3 := by unfold ps1; rw [h]; simp only [h2,if_true]
theorem parse2_no (h : cut text [10] = (a,b,false)) : ps2 (fuel + 1) J text line = (J,line) := by rw [ps2,h]; simp
theorem parse2_bad (h : cut text [10] = (a,b,true)) (hh : (split a [32]).head? = some shiftW) (h2 : ap shiftW 1 0 (split a [32]) = none) : ps2 (fuel + 1) J text line = (J,line) := by rw [ps2,h]; simp only [h2,hh,if_true]
theorem parse2_go (h : cut text [10] = (a,b,true)) (hh : (split a [32]).head? = some shiftW) (h2 : ap shiftW 1 0 (split a [32]) = some ([s],ns)) : ps2 (fuel + 1) J text line = ps2 fuel { J with sh := J.sh ++ [s] } b (line + 1) := by rw [ps2,h]; simp only [h2,hh,if_true]
theorem parse3_bad (h : cut text [10] = (a,b,true)) (hh : ¬ (split a [32]).head? = some shiftW) (h2 : ap passW 0 2 (split a [32]) = none) : ps2 (fuel + 1) J text line = (J,line) := by rw [ps2,h]; simp only [h2,hh,if_true,if_false]
theorem parse3_go (h : cut text [10] = (a,b,true)) (hh : ¬ (split a [32]).head? = some shiftW) (h2 : ap passW 0 2 (split a [32]) = some (ss,[i,j])) : ps2 (fuel + 1) J text line = ({ J with wi := i,me := j },if b = [] then 0 else line + 1) := by
  rw [ps2,h]
  simp only [h2,hh,if_true,if_false]
  split <;> rfl
theorem cut_shorter (h : cut text [10] = (a,b,true)) : b.length < text.length := by
  rw [(Tx.cut_some h).1,List.length_append,List.length_cons]
  omega
theorem cut_longer {e : Bool} (h : cut text [10] = (a,b,e)) : a.length ≤ text.length ∧ b.length ≤ text.length := by
  have := cut_len text 10
  rw [h] at this
  exact this
end
theorem head_eq {l : List ByteArray} {x : ByteArray} {q : List UInt8} {ps : List (List UInt8)} (h : bytes l = ps) (h0 : l[0]? = some x) {bq : Bool} (hq : (!(x.toList == (bt q).toList)) = bq) : (ps.head? = some q ↔ bq = false) := by
  rw [← h,List.head?_map,List.head?_eq_getElem?,h0,← hq]
  simp only [Option.map_some,Option.some.injEq]
  rw [ByteArray.toList_eq,ByteArray.toList_eq]
  simp [bt]
theorem ap_nums {word : List UInt8} {r n : Nat} {ps : List (List UInt8)} {ss : List R2} {ns : List Int} (h : ap word r n ps = some (ss,ns)) : ss.length = r ∧ ns.length = n := ⟨(ap_some h).2.1,(ap_some h).2.2.1⟩
theorem nums_row {w : World} {B n : Nat} {v : Value} {l : List Int} (h : w.ownsRow B 3 1 v n (l.map (Value.int .i64))) : ∃ a c,v = .slice a n c ∧ (∀ q o,a = some ⟨q,o,none⟩ → B ≤ q) ∧ ∀ k x,l[k]? = some x → ∃ q,a = some ⟨q,0,none⟩ ∧ w.cell? ⟨q,k,none⟩ = some (.int .i64 x) := by
  have hl := h.1
  rw [List.length_map,Nat.mul_one] at hl
  rcases h.2 with ⟨rfl,rfl⟩ | ⟨g,cap,cur,rfl,hb,hg,hnc,hcm,hcs,htk⟩
  · have e : l = [] := List.length_eq_zero_iff.1 (by omega)
    subst e
    exact ⟨none,0,rfl,(fun q o h => by cases h),fun k x hk => by simp at hk⟩
  · refine ⟨some ⟨g,0,none⟩,cap,rfl,(fun q o h => by cases h; exact hb),fun k x hk => ⟨g,rfl,?_⟩⟩
    have hkl := (List.getElem?_eq_some_iff.1 hk).1
    rw [cell_of_row w g k cur 3 (0,0) hg,← Array.getElem?_toList]
    have h2 : (cur.toList.take (n * 1))[k]? = some (.int .i64 x) := by rw [htk,List.getElem?_map,hk]; rfl
    rw [List.getElem?_take_of_lt (by omega)] at h2
    exact h2
theorem rg_first {w : World} {B : Nat} {a : Option Addr} {s : R2} {l : List R2} (h : Rg w B a (s :: l)) : ∃ q o,a = some ⟨q,o,none⟩ ∧ q < B := by
  obtain ⟨q,o,e,hq,_⟩ := h 0 s rfl
  exact ⟨q,o,e,hq⟩
theorem rg_next {w : World} {B q o : Nat} {l : List R2} (h : Rg w B (some ⟨q,o,none⟩) l) (k : Nat) (s : R2) (hs : l[k]? = some s) : w.cell? ⟨q,o + k * 2,none⟩ = some (.int .i64 s.1) ∧ w.cell? ⟨q,o + k * 2 + 1,none⟩ = some (.int .i64 s.2) := by
  obtain ⟨q',o',e,_,h0,h1⟩ := h k s hs
  cases e
  exact ⟨h0,h1⟩
section
variable {g Bs B1 : Nat} {w0 w w1 : World} {J : Jb} {sv nv : Value} {ra : Option Addr} {rc : Nat} {ss : List R2} {ns : List Int}
def TK (g Bs : Nat) (w0 : World) (J : Jb) (f : Jb → List R2 → List Int → Jb) (ss : List R2) (ns : List Int) (_ : World) (w' : World) : Prop := ∃ v',PJ g Bs w0 (f J ss ns) v' w'
def f1 (J : Jb) (ss : List R2) (_ : List Int) : Jb := match ss with
  | [p,t,r] => { J with p1 := p.1,p2 := p.2,t1 := t.1,t2 := t.2,r1 := r.1,r2 := r.2 }
  | _ => J
def f2 (J : Jb) (ss : List R2) (ns : List Int) : Jb := match ss,ns with
  | [u,d,x,y],[le] => { J with u1 := u.1,u2 := u.2,d1 := d.1,d2 := d.2,x1 := x.1,x2 := x.2,y1 := y.1,y2 := y.2,le := le }
  | _,_ => J
def f3 (J : Jb) (ss : List R2) (_ : List Int) : Jb := match ss with
  | [s] => { J with sh := J.sh ++ [s] }
  | _ => J
def f4 (J : Jb) (_ : List R2) (ns : List Int) : Jb := match ns with
  | [i,j] => { J with wi := i,me := j }
  | _ => J
theorem tk1 (hJ : PJ g Bs w0 J sv w1) (hg : g < B1) (hs : ss.length = 3) (hn : ns.length = 0) (hq : ∀ q o,ra = some ⟨q,o,none⟩ → B1 ≤ q) (hr : Rg w1 w1.heap.size ra ss) (ho : w1.ownsRow B1 3 1 nv 0 (ns.map (Value.int .i64))) :
    Calls Tryz.prog 77 #[.pointer (some ⟨g,0,none⟩),.slice ra 3 rc,nv] w1 fun e w' => e = .returned (.tuple #[]) ∧ TK g Bs w0 J f1 ss ns w1 w' := by
  obtain ⟨p,t,r,rfl⟩ : ∃ p t r,ss = [p,t,r] := by
    match ss,hs with
    | [p,t,r],_ => exact ⟨p,t,r,rfl⟩
  obtain ⟨q,o,rfl,hlt⟩ := rg_first hr
  obtain ⟨na,nc,rfl,_,_⟩ := nums_row ho
  obtain ⟨a0,a1⟩ := rg_next hr 0 p rfl
  obtain ⟨b0,b1⟩ := rg_next hr 1 t rfl
  obtain ⟨c0,c1⟩ := rg_next hr 2 r rfl
  refine (take1_any p.1 p.2 t.1 t.2 r.1 r.2 g q o rc na 0 nc _ rfl w1 hJ.bk (by have := hq q o rfl; omega) ⟨a0,a1,b0,b1,c0,c1⟩).mono ?_
  rintro e w' ⟨rfl,hb,hk⟩
  exact ⟨rfl,sv,hJ.of rfl hb hk⟩
set_option maxHeartbeats 400000 in
theorem tk2 (hJ : PJ g Bs w0 J sv w1) (hg : g < B1) (hs : ss.length = 4) (hn : ns.length = 1) (hq : ∀ q o,ra = some ⟨q,o,none⟩ → B1 ≤ q) (hr : Rg w1 w1.heap.size ra ss) (ho : w1.ownsRow B1 3 1 nv 1 (ns.map (Value.int .i64))) :
    Calls Tryz.prog 78 #[.pointer (some ⟨g,0,none⟩),.slice ra 4 rc,nv] w1 fun e w' => e = .returned (.tuple #[]) ∧ TK g Bs w0 J f2 ss ns w1 w' := by
  obtain ⟨u,d,x,y,rfl⟩ : ∃ u d x y,ss = [u,d,x,y] := by
    match ss,hs with
    | [u,d,x,y],_ => exact ⟨u,d,x,y,rfl⟩
  obtain ⟨le,rfl⟩ : ∃ le,ns = [le] := by
    match ns,hn with
    | [le],_ => exact ⟨le,rfl⟩
  obtain ⟨q,o,rfl,hlt⟩ := rg_first hr
  obtain ⟨na,nc,rfl,hnq,hnk⟩ := nums_row ho
  obtain ⟨q2,rfl,hle⟩ := hnk 0 le rfl
  obtain ⟨a0,a1⟩ := rg_next hr 0 u rfl
  obtain ⟨b0,b1⟩ := rg_next hr 1 d rfl
  obtain ⟨c0,c1⟩ := rg_next hr 2 x rfl
  obtain ⟨d0,d1⟩ := rg_next hr 3 y rfl
  refine (take2_any u.1 u.2 d.1 d.2 x.1 x.2 y.1 y.2 g q o rc q2 0 nc le (by have := hnq q2 0 rfl; omega) _ rfl w1 hJ.bk (by have := hq q o rfl; omega) ⟨a0,a1,b0,b1,c0,c1,d0,d1,hle⟩).mono ?_
  rintro e w' ⟨rfl,hb,hk⟩
  refine ⟨rfl,sv,hJ.of rfl ?_ hk⟩
  clear hk hJ
  simp only [jobC,List.setIfInBounds_toArray,List.set_cons_zero,List.set_cons_succ] at hb
  exact hb
theorem tk3 (hJ : PJ g Bs w0 J sv w1) (hg : g < B1) (hs : ss.length = 1) (hn : ns.length = 0) (hm : J.sh.length ≤ 1000000) (hr : Rg w1 w1.heap.size ra ss) :
    Calls Tryz.prog 79 #[.pointer (some ⟨g,0,none⟩),.slice ra 1 rc,nv] w1 fun e w' => e = .returned (.tuple #[]) ∧ TK g Bs w0 J f3 ss ns w1 w' := by
  obtain ⟨s,rfl⟩ : ∃ s,ss = [s] := by
    match ss,hs with
    | [s],_ => exact ⟨s,rfl⟩
  obtain ⟨q,o,rfl,hlt⟩ := rg_first hr
  obtain ⟨a0,a1⟩ := rg_next hr 0 s rfl
  exact take3_any s g Bs q o rc w0 J sv nv w1 hJ a0 a1 hm
theorem tk4 (hJ : PJ g Bs w0 J sv w1) (hg : g < B1) (hs : ss.length = 0) (hn : ns.length = 2) (ho : w1.ownsRow B1 3 1 nv 2 (ns.map (Value.int .i64))) :
    Calls Tryz.prog 80 #[.pointer (some ⟨g,0,none⟩),.slice ra 0 rc,nv] w1 fun e w' => e = .returned (.tuple #[]) ∧ TK g Bs w0 J f4 ss ns w1 w' := by
  obtain ⟨i,j,rfl⟩ : ∃ i j,ns = [i,j] := by
    match ns,hn with
    | [i,j],_ => exact ⟨i,j,rfl⟩
  obtain ⟨na,nc,rfl,hnq,hnk⟩ := nums_row ho
  obtain ⟨q2,rfl,h1⟩ := hnk 0 i rfl
  obtain ⟨q3,e3,h2⟩ := hnk 1 j rfl
  cases e3
  refine (take4_any i j g q2 0 nc ra 0 rc _ rfl w1 hJ.bk (by have := hnq q2 0 rfl; omega) h1 h2).mono ?_
  rintro e w' ⟨rfl,hb,hk⟩
  exact ⟨rfl,sv,hJ.of rfl hb hk⟩
end
theorem enter77 (args : Array Value) (w : World) : (callFunc 77 args).run Tryz.prog w = .ok (.enter 77 args) w := by simp [go_sem]
theorem enter78 (args : Array Value) (w : World) : (callFunc 78 args).run Tryz.prog w = .ok (.enter 78 args) w := by simp [go_sem]
theorem enter79 (args : Array Value) (w : World) : (callFunc 79 args).run Tryz.prog w = .ok (.enter 79 args) w := by simp [go_sem]
theorem enter80 (args : Array Value) (w : World) : (callFunc 80 args).run Tryz.prog w = .ok (.enter 80 args) w := by simp [go_sem]
end Go.Proofs.YtljefjngmembkaaGreatDoor
