/- Part 12 of the proof: TxH, LeafB, Check, CheckB, Win, Stroke, Window, Full. -/
import Derived.BigQuiet
import Derived.Deep.RegionHeld3
import Derived.Deep.DeepCutAuto
import Derived.Maps.AppendAt
import Derived.Deep.DeepMust
import Derived.Deep.AppendLies
import Derived.Laws.ResultCell
import Derived.Test.YtljefjngmembkaaGreatDoorT11
namespace Go.Proofs.YtljefjngmembkaaGreatDoor
set_option linter.all false
open Go.RowKit
def WS (w0 w : World) (g : Nat) (cs : Array Value) : Prop := Below w0.heap.size w0 w ∧ Bk w g 30 cs
theorem WS.drew {w0 w : World} {g : Nat} {cs : Array Value} (h : WS w0 w g cs) : WS w0 w.drew g cs := ⟨h.1.drew,h.2.drew⟩
theorem WS.next {w0 w w' : World} {g : Nat} {cs : Array Value} (h : WS w0 w g cs) (hb : Below w.heap.size w w') : WS w0 w' g cs := ⟨h.1.trans (hb.mono h.1.size),h.2.below hb h.2.lt⟩
def SpOK (a b : Int) (T : ByteArray) : Prop := ∀ w',LibW w' → Calls Tryz.prog 30 #[.agg #[.int .i64 a,.int .i64 b]] w' fun e w'' => e = .returned (.string T) ∧ Below w'.heap.size w' w''
def ItOK (a : Int) (T : ByteArray) : Prop := ∀ w',LibW w' → Calls Tryz.prog 31 #[.int .i64 a] w' fun e w'' => e = .returned (.string T) ∧ Below w'.heap.size w' w''
def LnOK (l : List ByteArray) (T : ByteArray) : Prop := ∀ (w' : World) (g : Nat),Bk w' g 9 (l.map Value.string).toArray → Calls Tryz.prog 29 #[.slice (some ⟨g,0,none⟩) l.length l.length] w' fun e w'' => e = .returned (.string T) ∧ Below w'.heap.size w' w''
theorem lnOK (l : List ByteArray) (hN : l.length ≤ 100000) (hlen : (Lib.join (l.map (·.data.toList)) [32]).length ≤ 1000000) : LnOK l (lineB l) := fun w' g hB =>
  lineOf_any g 0 l.length l w' ⟨hB.lt,fun k x hk => by rw [Nat.zero_add]; exact hB.at_ k _ (by simp [hk])⟩ hN (Nat.le_refl _) hlen
set_option maxHeartbeats 2000000 in
set_option maxRecDepth 100000 in
theorem wr4 {w0 w : World} {g : Nat} {J : Jb} {s : Value} {Q : Exit → Act → World → Prop} {u0 u2 u3 u4 u5 u6 u7 u8 u9 A0 A1 A2 A3 A4 A5 A6 A7 A8 A9 Aa Ab Ac Ad Ae Af Ag Ah Ai Aj Ak Al Am An Ao Ap Aq Ar As At Au Av Aw Ax Ay Az C0 C1 C2 C3 C4 C5 C6 C7 C8 C9 Ca Cb Cc Cd Ce Cf Cg Ch Ci Cj Ck Cl Cm Cn Co Cp Cq Cr Cs : Value} (hl : LibW w0) (hs : WS w0 w g (jobC J s)) {T1 T2 T3 T : ByteArray} (H1 : Hid (SpOK J.p1 J.p2 T1)) (H2 : Hid (SpOK J.t1 J.t2 T2)) (H3 : Hid (SpOK J.r1 J.r2 T3)) (HL : Hid (LnOK [⟨#[116,111,110,103,117,101]⟩,T1,T2,T3] T)) (hK : ∀ w' : World,WS w0 w' g (jobC J s) → ∀ (v13 v14 v15 v16 v17 v18 v19 v20 v21 v22 v23 v24 v25 v26 : Value),Q .normal ⟨#[u0,(.pointer (some ⟨g,0,none⟩)),u2,u3,u4,(.string T),u6,u7,u8,u9,A0,A1,A2,v13,v14,v15,v16,v17,v18,v19,v20,v21,v22,v23,v24,v25,v26,Ah,Ai,Aj,Ak,Al,Am,An,Ao,Ap,Aq,Ar,As,At,Au,Av,Aw,Ax,Ay,Az,C0,C1,C2,C3,C4,C5,C6,C7,C8,C9,Ca,Cb,Cc,Cd,Ce,Cf,Cg,Ch,Ci,Cj,Ck,Cl,Cm,Cn,Co,Cp,Cq,Cr,Cs],[]⟩ w') : Code.wp Tryz.prog (Code.region 4 #[⟨some 13,.fieldAddr 30 (.tmp 1) 0,0,"text.go:26",#[],none⟩,⟨some 14,.fieldAddr 25 (.tmp 13) 0,0,"text.go:26",#[⟨0,.data⟩],none⟩,⟨some 15,.load 23 (.tmp 14),23,"text.go:26",#[⟨1,.data⟩],none⟩,⟨some 16,.call { callee := .value (.func 30),args := #[.tmp 15],argTypes := #[23] },9,"text.go:26",#[⟨2,.data⟩],none⟩,⟨some 17,.fieldAddr 30 (.tmp 1) 0,0,"text.go:26",#[],none⟩,⟨some 18,.fieldAddr 25 (.tmp 17) 1,0,"text.go:26",#[⟨4,.data⟩],none⟩,⟨some 19,.load 23 (.tmp 18),23,"text.go:26",#[⟨5,.data⟩],none⟩,⟨some 20,.call { callee := .value (.func 30),args := #[.tmp 19],argTypes := #[23] },9,"text.go:26",#[⟨6,.data⟩,⟨3,.chain⟩],none⟩,⟨some 21,.fieldAddr 30 (.tmp 1) 0,0,"text.go:26",#[],none⟩,⟨some 22,.fieldAddr 25 (.tmp 21) 2,0,"text.go:26",#[⟨8,.data⟩],none⟩,⟨some 23,.load 23 (.tmp 22),23,"text.go:26",#[⟨9,.data⟩],none⟩,⟨some 24,.call { callee := .value (.func 30),args := #[.tmp 23],argTypes := #[23] },9,"text.go:26",#[⟨10,.data⟩,⟨7,.chain⟩],none⟩,⟨some 25,.buildSlice 37 4 #[(0,.const (.string { data := #[116,111,110,103,117,101] })),(1,.tmp 16),(2,.tmp 20),(3,.tmp 24)],37,"text.go:26",#[⟨3,.data⟩,⟨7,.data⟩,⟨11,.data⟩],none⟩,⟨some 26,.call { callee := .value (.func 29),args := #[.tmp 25],argTypes := #[37] },9,"text.go:26",#[⟨12,.data⟩,⟨11,.chain⟩],none⟩,⟨some 5,.assign (.tmp 26),9,"text.go:26",#[⟨13,.data⟩,⟨13,.chain⟩,⟨0,.phase⟩,⟨1,.phase⟩,⟨2,.phase⟩,⟨3,.phase⟩,⟨4,.phase⟩,⟨5,.phase⟩,⟨6,.phase⟩,⟨7,.phase⟩,⟨8,.phase⟩,⟨9,.phase⟩,⟨10,.phase⟩,⟨11,.phase⟩,⟨12,.phase⟩,⟨13,.phase⟩],none⟩] true) Q ⟨#[u0,(.pointer (some ⟨g,0,none⟩)),u2,u3,u4,u5,u6,u7,u8,u9,A0,A1,A2,A3,A4,A5,A6,A7,A8,A9,Aa,Ab,Ac,Ad,Ae,Af,Ag,Ah,Ai,Aj,Ak,Al,Am,An,Ao,Ap,Aq,Ar,As,At,Au,Av,Aw,Ax,Ay,Az,C0,C1,C2,C3,C4,C5,C6,C7,C8,C9,Ca,Cb,Cc,Cd,Ce,Cf,Cg,Ch,Ci,Cj,Ck,Cl,Cm,Cn,Co,Cp,Cq,Cr,Cs],[]⟩ w := by
  have Hh := hidMk hl
  have HK := hidMk hK
  clear hl hK
  refine region_via (R := fun a_ e_ a' w' => e_ = .normal ∧ ∃ (v13 v14 v15 v16 v17 v18 v19 v20 v21 v22 v23 v24 v25 v26 : Value),a' = (((((((((((((((a_.put (some 13) v13).put (some 14) v14).put (some 15) v15).put (some 16) v16).put (some 17) v17).put (some 18) v18).put (some 19) v19).put (some 20) v20).put (some 21) v21).put (some 22) v22).put (some 23) v23).put (some 24) v24).put (some 25) v25).put (some 26) v26).put (some 5) (.string T)) ∧ WS w0 w' g (jobC J s)) ?_ ?_
  rotate_left
  · rintro e_ a' w' ⟨rfl,v13,v14,v15,v16,v17,v18,v19,v20,v21,v22,v23,v24,v25,v26,rfl,h1⟩
    simp only [Act.put,aT,aZ,aS]
    exact HK.out _ h1 _ _ _ _ _ _ _ _ _ _ _ _ _ _ 
  have hS := hs.drew
  clear hs
  refine wp_region_held_drew (S := fun w' => WS w0 w' g (jobC J s)) (by kernel_rfl) hS (fun hS0 => ?_)
  clear hS0
  generalize w.drew = w1 at hS ⊢
  refine wT (i := 0) (v := ?_) rfl (.inl ⟨by rfl,?_⟩) ?_
  rotate_left
  · (intro w' hSw; (try dsimp only at hSw); go_simp <;> with_reducible rfl)
  (try simp only [Act.put,aT,aZ,aS])
  refine wT (i := 1) (v := ?_) rfl (.inl ⟨by rfl,?_⟩) ?_
  rotate_left
  · (intro w' hSw; (try dsimp only at hSw); go_simp <;> with_reducible rfl)
  (try simp only [Act.put,aT,aZ,aS])
  refine wT (i := 2) (v := ?_) rfl (.inl ⟨by rfl,?_⟩) ?_
  rotate_left
  · (intro w' hSw; (try dsimp only at hSw); (have j0 := hSw.2.at_ 0 (.int .i64 J.p1) rfl; have j1 := hSw.2.at_ 1 (.int .i64 J.p2) rfl); go_simp <;> with_reducible rfl)
  (try simp only [Act.put,aT,aZ,aS])
  refine wT (i := 4) (v := ?_) rfl (.inl ⟨by rfl,?_⟩) ?_
  rotate_left
  · (intro w' hSw; (try dsimp only at hSw); go_simp <;> with_reducible rfl)
  (try simp only [Act.put,aT,aZ,aS])
  refine wT (i := 5) (v := ?_) rfl (.inl ⟨by rfl,?_⟩) ?_
  rotate_left
  · (intro w' hSw; (try dsimp only at hSw); go_simp <;> with_reducible rfl)
  (try simp only [Act.put,aT,aZ,aS])
  refine wT (i := 6) (v := ?_) rfl (.inl ⟨by rfl,?_⟩) ?_
  rotate_left
  · (intro w' hSw; (try dsimp only at hSw); (have j0 := hSw.2.at_ 2 (.int .i64 J.t1) rfl; have j1 := hSw.2.at_ 3 (.int .i64 J.t2) rfl); go_simp <;> with_reducible rfl)
  (try simp only [Act.put,aT,aZ,aS])
  refine wT (i := 8) (v := ?_) rfl (.inl ⟨by rfl,?_⟩) ?_
  rotate_left
  · (intro w' hSw; (try dsimp only at hSw); go_simp <;> with_reducible rfl)
  (try simp only [Act.put,aT,aZ,aS])
  refine wT (i := 9) (v := ?_) rfl (.inl ⟨by rfl,?_⟩) ?_
  rotate_left
  · (intro w' hSw; (try dsimp only at hSw); go_simp <;> with_reducible rfl)
  (try simp only [Act.put,aT,aZ,aS])
  refine wT (i := 10) (v := ?_) rfl (.inl ⟨by rfl,?_⟩) ?_
  rotate_left
  · (intro w' hSw; (try dsimp only at hSw); (have j0 := hSw.2.at_ 4 (.int .i64 J.r1) rfl; have j1 := hSw.2.at_ 5 (.int .i64 J.r2) rfl); go_simp <;> with_reducible rfl)
  (try simp only [Act.put,aT,aZ,aS])
  refine wpAnyH_ready (rs := [3]) (by kernel_rfl) (by simp) ?_
  refine AllReadyH.cons rfl (fun K hK => ?_) ?_
  · go_simp
    go_at_call 30
    refine (H1.out _ (Hh.out.keep hS.1 Hh.out.room)).mono ?_
    rintro e w2 ⟨rfl,hb2⟩
    go_wp2_with fail
    have hS_ := hS.next hb2
    clear hb2 hS
    refine hK.out _ _ hS_ (fun _ => ?_)
    have hS := hS_
    clear hS_
    clear hK K
    (try simp only [Act.put,aT,aZ,aS])
    refine wpAnyH_ready (rs := [7]) (by kernel_rfl) (by simp) ?_
    refine AllReadyH.cons rfl (fun K hK => ?_) ?_
    · go_simp
      go_at_call 30
      refine (H2.out _ (Hh.out.keep hS.1 Hh.out.room)).mono ?_
      rintro e w3 ⟨rfl,hb2⟩
      go_wp2_with fail
      have hS_ := hS.next hb2
      clear hb2 hS
      refine hK.out _ _ hS_ (fun _ => ?_)
      have hS := hS_
      clear hS_
      clear hK K
      (try simp only [Act.put,aT,aZ,aS])
      refine wpAnyH_ready (rs := [11]) (by kernel_rfl) (by simp) ?_
      refine AllReadyH.cons rfl (fun K hK => ?_) ?_
      · go_simp
        go_at_call 30
        refine (H3.out _ (Hh.out.keep hS.1 Hh.out.room)).mono ?_
        rintro e w4 ⟨rfl,hb2⟩
        go_wp2_with fail
        have hS_ := hS.next hb2
        clear hb2 hS
        refine hK.out _ _ hS_ (fun _ => ?_)
        have hS := hS_
        clear hS_
        clear hK K
        (try simp only [Act.put,aT,aZ,aS])
        refine wpAnyH_ready (rs := [12]) (by kernel_rfl) (by simp) ?_
        refine AllReadyH.cons rfl (fun K hK => ?_) ?_
        · have al_ : Below w4.heap.size w4 (w4.alloc (.cells #[.string ⟨#[116,111,110,103,117,101]⟩,.string T1,.string T2,.string T3] 9)) := (Below.refl _ _).alloc (Nat.le_refl _) _
          have hB : Bk (w4.alloc (.cells #[.string ⟨#[116,111,110,103,117,101]⟩,.string T1,.string T2,.string T3] 9)) w4.heap.size 9 #[.string ⟨#[116,111,110,103,117,101]⟩,.string T1,.string T2,.string T3] := Bk.new _ _ _
          have hS_ := hS.next al_
          go_simp
          show K _ (w4.alloc (.cells #[.string ⟨#[116,111,110,103,117,101]⟩,.string T1,.string T2,.string T3] 9))
          refine hK.out _ _ hS_ (fun _ => ?_)
          clear hS al_
          have hS := hS_
          clear hS_
          generalize w4.heap.size = g_ at hB ⊢
          generalize (w4.alloc (.cells #[.string ⟨#[116,111,110,103,117,101]⟩,.string T1,.string T2,.string T3] 9)) = w5 at hB hS ⊢
          clear hK K
          (try simp only [Act.put,aT,aZ,aS])
          refine wpAnyH_ready (rs := [13]) (by kernel_rfl) (by simp) ?_
          refine AllReadyH.cons rfl (fun K hK => ?_) ?_
          · go_simp
            go_at_call 29
            refine (HL.out _ g_ hB).mono ?_
            rintro e w6 ⟨rfl,hb2⟩
            go_wp2_with fail
            have hS_ := hS.next hb2
            clear hb2 hS hB
            refine hK.out _ _ hS_ (fun _ => ?_)
            have hS := hS_
            clear hS_
            clear hK K
            (try simp only [Act.put,aT,aZ,aS])
            refine wpAnyH_ready (rs := [14]) (by kernel_rfl) (by simp) ?_
            refine AllReadyH.cons rfl (fun K hK => ?_) ?_
            · go_simp
              refine hK.out _ _ hS (fun _ => ?_)
              clear hK K
              (try simp only [Act.put,aT,aZ,aS])
              refine wpAnyH_done (by kernel_rfl) ?_ _
              exact ⟨rfl,_,_,_,_,_,_,_,_,_,_,_,_,_,_,rfl,hS⟩
            exact AllReadyH.nil
          exact AllReadyH.nil
        exact AllReadyH.nil
      exact AllReadyH.nil
    exact AllReadyH.nil
  exact AllReadyH.nil
set_option maxHeartbeats 2000000 in
set_option maxRecDepth 100000 in
theorem wr5 {w0 w : World} {g : Nat} {J : Jb} {s : Value} {Q : Exit → Act → World → Prop} {u0 u2 u3 u4 u6 u7 u8 u9 A0 A1 A2 A3 A4 A5 A6 A7 A8 A9 Aa Ab Ac Ad Ae Af Ag Ah Ai Aj Ak Al Am An Ao Ap Aq Ar As At Au Av Aw Ax Ay Az C0 C1 C2 C3 C4 C5 C6 C7 C8 C9 Ca Cb Cc Cd Ce Cf Cg Ch Ci Cj Ck Cl Cm Cn Co Cp Cq Cr Cs : Value} (hl : LibW w0) (hs : WS w0 w g (jobC J s)) {T0 T1 T2 T3 T4 T5 T : ByteArray} (H1 : Hid (SpOK J.u1 J.u2 T1)) (H2 : Hid (SpOK J.d1 J.d2 T2)) (H3 : Hid (SpOK J.x1 J.x2 T3)) (H4 : Hid (SpOK J.y1 J.y2 T4)) (H5 : Hid (ItOK J.le T5)) (HL : Hid (LnOK [⟨#[102,105,108,101]⟩,T1,T2,T3,T4,T5] T)) (hz : T0.size ≤ 1000000 ∧ T.size ≤ 1000000) (hK : ∀ w' : World,WS w0 w' g (jobC J s) → ∀ (v27 v28 v29 v30 v31 v32 v33 v34 v35 v36 v37 v38 v39 v40 v41 v42 v43 v44 v45 v46 v47 v48 v49 v50 : Value),Q .normal ⟨#[u0,(.pointer (some ⟨g,0,none⟩)),u2,u3,u4,(.string (T0 ++ T)),u6,u7,u8,u9,A0,A1,A2,A3,A4,A5,A6,A7,A8,A9,Aa,Ab,Ac,Ad,Ae,Af,Ag,v27,v28,v29,v30,v31,v32,v33,v34,v35,v36,v37,v38,v39,v40,v41,v42,v43,v44,v45,v46,v47,v48,v49,v50,C5,C6,C7,C8,C9,Ca,Cb,Cc,Cd,Ce,Cf,Cg,Ch,Ci,Cj,Ck,Cl,Cm,Cn,Co,Cp,Cq,Cr,Cs],[]⟩ w') : Code.wp Tryz.prog (Code.region 5 #[⟨some 27,.move (.tmp 5),9,"text.go:27",#[],none⟩,⟨some 28,.fieldAddr 30 (.tmp 1) 1,0,"text.go:27",#[],none⟩,⟨some 29,.fieldAddr 27 (.tmp 28) 0,0,"text.go:27",#[⟨1,.data⟩],none⟩,⟨some 30,.load 23 (.tmp 29),23,"text.go:27",#[⟨2,.data⟩],none⟩,⟨some 31,.call { callee := .value (.func 30),args := #[.tmp 30],argTypes := #[23] },9,"text.go:27",#[⟨3,.data⟩],none⟩,⟨some 32,.fieldAddr 30 (.tmp 1) 1,0,"text.go:27",#[],none⟩,⟨some 33,.fieldAddr 27 (.tmp 32) 1,0,"text.go:27",#[⟨5,.data⟩],none⟩,⟨some 34,.load 23 (.tmp 33),23,"text.go:27",#[⟨6,.data⟩],none⟩,⟨some 35,.call { callee := .value (.func 30),args := #[.tmp 34],argTypes := #[23] },9,"text.go:27",#[⟨7,.data⟩,⟨4,.chain⟩],none⟩,⟨some 36,.fieldAddr 30 (.tmp 1) 1,0,"text.go:27",#[],none⟩,⟨some 37,.fieldAddr 27 (.tmp 36) 2,0,"text.go:27",#[⟨9,.data⟩],none⟩,⟨some 38,.load 23 (.tmp 37),23,"text.go:27",#[⟨10,.data⟩],none⟩,⟨some 39,.call { callee := .value (.func 30),args := #[.tmp 38],argTypes := #[23] },9,"text.go:27",#[⟨11,.data⟩,⟨8,.chain⟩],none⟩,⟨some 40,.fieldAddr 30 (.tmp 1) 1,0,"text.go:27",#[],none⟩,⟨some 41,.fieldAddr 27 (.tmp 40) 3,0,"text.go:27",#[⟨13,.data⟩],none⟩,⟨some 42,.load 23 (.tmp 41),23,"text.go:27",#[⟨14,.data⟩],none⟩,⟨some 43,.call { callee := .value (.func 30),args := #[.tmp 42],argTypes := #[23] },9,"text.go:27",#[⟨15,.data⟩,⟨12,.chain⟩],none⟩,⟨some 44,.fieldAddr 30 (.tmp 1) 1,0,"text.go:27",#[],none⟩,⟨some 45,.fieldAddr 27 (.tmp 44) 4,0,"text.go:27",#[⟨17,.data⟩],none⟩,⟨some 46,.load 3 (.tmp 45),3,"text.go:27",#[⟨18,.data⟩],none⟩,⟨some 47,.call { callee := .value (.func 31),args := #[.tmp 46],argTypes := #[3] },9,"text.go:27",#[⟨19,.data⟩,⟨16,.chain⟩],none⟩,⟨some 48,.buildSlice 37 6 #[(0,.const (.string { data := #[102,105,108,101] })),(1,.tmp 31),(2,.tmp 35),(3,.tmp 39),(4,.tmp 43),(5,.tmp 47)],37,"text.go:27",#[⟨4,.data⟩,⟨8,.data⟩,⟨12,.data⟩,⟨16,.data⟩,⟨20,.data⟩],none⟩,⟨some 49,.call { callee := .value (.func 29),args := #[.tmp 48],argTypes := #[37] },9,"text.go:27",#[⟨21,.data⟩,⟨20,.chain⟩],none⟩,⟨some 50,.binOp .add 9 (.tmp 27) (.tmp 49) 9,9,"text.go:27",#[⟨0,.data⟩,⟨22,.data⟩],none⟩,⟨some 5,.assign (.tmp 50),9,"text.go:27",#[⟨23,.data⟩,⟨22,.chain⟩,⟨0,.phase⟩,⟨1,.phase⟩,⟨2,.phase⟩,⟨3,.phase⟩,⟨4,.phase⟩,⟨5,.phase⟩,⟨6,.phase⟩,⟨7,.phase⟩,⟨8,.phase⟩,⟨9,.phase⟩,⟨10,.phase⟩,⟨11,.phase⟩,⟨12,.phase⟩,⟨13,.phase⟩,⟨14,.phase⟩,⟨15,.phase⟩,⟨16,.phase⟩,⟨17,.phase⟩,⟨18,.phase⟩,⟨19,.phase⟩,⟨20,.phase⟩,⟨21,.phase⟩,⟨22,.phase⟩,⟨23,.phase⟩],none⟩] true) Q ⟨#[u0,(.pointer (some ⟨g,0,none⟩)),u2,u3,u4,(.string T0),u6,u7,u8,u9,A0,A1,A2,A3,A4,A5,A6,A7,A8,A9,Aa,Ab,Ac,Ad,Ae,Af,Ag,Ah,Ai,Aj,Ak,Al,Am,An,Ao,Ap,Aq,Ar,As,At,Au,Av,Aw,Ax,Ay,Az,C0,C1,C2,C3,C4,C5,C6,C7,C8,C9,Ca,Cb,Cc,Cd,Ce,Cf,Cg,Ch,Ci,Cj,Ck,Cl,Cm,Cn,Co,Cp,Cq,Cr,Cs],[]⟩ w := by
  have Hh := hidMk hl
  have HK := hidMk hK
  clear hl hK
  refine region_via (R := fun a_ e_ a' w' => e_ = .normal ∧ ∃ (v27 v28 v29 v30 v31 v32 v33 v34 v35 v36 v37 v38 v39 v40 v41 v42 v43 v44 v45 v46 v47 v48 v49 v50 : Value),a' = (((((((((((((((((((((((((a_.put (some 27) v27).put (some 28) v28).put (some 29) v29).put (some 30) v30).put (some 31) v31).put (some 32) v32).put (some 33) v33).put (some 34) v34).put (some 35) v35).put (some 36) v36).put (some 37) v37).put (some 38) v38).put (some 39) v39).put (some 40) v40).put (some 41) v41).put (some 42) v42).put (some 43) v43).put (some 44) v44).put (some 45) v45).put (some 46) v46).put (some 47) v47).put (some 48) v48).put (some 49) v49).put (some 50) v50).put (some 5) (.string (T0 ++ T))) ∧ WS w0 w' g (jobC J s)) ?_ ?_
  rotate_left
  · rintro e_ a' w' ⟨rfl,v27,v28,v29,v30,v31,v32,v33,v34,v35,v36,v37,v38,v39,v40,v41,v42,v43,v44,v45,v46,v47,v48,v49,v50,rfl,h1⟩
    simp only [Act.put,aT,aZ,aS]
    exact HK.out _ h1 _ _ _ _ _ _ _ _ _ _ _ _ _ _ _ _ _ _ _ _ _ _ _ _ 
  have hS := hs.drew
  clear hs
  refine wp_region_held_drew (S := fun w' => WS w0 w' g (jobC J s)) (by kernel_rfl) hS (fun hS0 => ?_)
  clear hS0
  generalize w.drew = w1 at hS ⊢
  refine wT (i := 0) (v := ?_) rfl (.inl ⟨by rfl,?_⟩) ?_
  rotate_left
  · (intro w' hSw; (try dsimp only at hSw); go_simp <;> with_reducible rfl)
  (try simp only [Act.put,aT,aZ,aS])
  refine wT (i := 1) (v := ?_) rfl (.inl ⟨by rfl,?_⟩) ?_
  rotate_left
  · (intro w' hSw; (try dsimp only at hSw); go_simp <;> with_reducible rfl)
  (try simp only [Act.put,aT,aZ,aS])
  refine wT (i := 2) (v := ?_) rfl (.inl ⟨by rfl,?_⟩) ?_
  rotate_left
  · (intro w' hSw; (try dsimp only at hSw); go_simp <;> with_reducible rfl)
  (try simp only [Act.put,aT,aZ,aS])
  refine wT (i := 3) (v := ?_) rfl (.inl ⟨by rfl,?_⟩) ?_
  rotate_left
  · (intro w' hSw; (try dsimp only at hSw); (have j0 := hSw.2.at_ 6 (.int .i64 J.u1) rfl; have j1 := hSw.2.at_ 7 (.int .i64 J.u2) rfl); go_simp <;> with_reducible rfl)
  (try simp only [Act.put,aT,aZ,aS])
  refine wT (i := 5) (v := ?_) rfl (.inl ⟨by rfl,?_⟩) ?_
  rotate_left
  · (intro w' hSw; (try dsimp only at hSw); go_simp <;> with_reducible rfl)
  (try simp only [Act.put,aT,aZ,aS])
  refine wT (i := 6) (v := ?_) rfl (.inl ⟨by rfl,?_⟩) ?_
  rotate_left
  · (intro w' hSw; (try dsimp only at hSw); go_simp <;> with_reducible rfl)
  (try simp only [Act.put,aT,aZ,aS])
  refine wT (i := 7) (v := ?_) rfl (.inl ⟨by rfl,?_⟩) ?_
  rotate_left
  · (intro w' hSw; (try dsimp only at hSw); (have j0 := hSw.2.at_ 8 (.int .i64 J.d1) rfl; have j1 := hSw.2.at_ 9 (.int .i64 J.d2) rfl); go_simp <;> with_reducible rfl)
  (try simp only [Act.put,aT,aZ,aS])
  refine wT (i := 9) (v := ?_) rfl (.inl ⟨by rfl,?_⟩) ?_
  rotate_left
  · (intro w' hSw; (try dsimp only at hSw); go_simp <;> with_reducible rfl)
  (try simp only [Act.put,aT,aZ,aS])
  refine wT (i := 10) (v := ?_) rfl (.inl ⟨by rfl,?_⟩) ?_
  rotate_left
  · (intro w' hSw; (try dsimp only at hSw); go_simp <;> with_reducible rfl)
  (try simp only [Act.put,aT,aZ,aS])
  refine wT (i := 11) (v := ?_) rfl (.inl ⟨by rfl,?_⟩) ?_
  rotate_left
  · (intro w' hSw; (try dsimp only at hSw); (have j0 := hSw.2.at_ 10 (.int .i64 J.x1) rfl; have j1 := hSw.2.at_ 11 (.int .i64 J.x2) rfl); go_simp <;> with_reducible rfl)
  (try simp only [Act.put,aT,aZ,aS])
  refine wT (i := 13) (v := ?_) rfl (.inl ⟨by rfl,?_⟩) ?_
  rotate_left
  · (intro w' hSw; (try dsimp only at hSw); go_simp <;> with_reducible rfl)
  (try simp only [Act.put,aT,aZ,aS])
  refine wT (i := 14) (v := ?_) rfl (.inl ⟨by rfl,?_⟩) ?_
  rotate_left
  · (intro w' hSw; (try dsimp only at hSw); go_simp <;> with_reducible rfl)
  (try simp only [Act.put,aT,aZ,aS])
  refine wT (i := 15) (v := ?_) rfl (.inl ⟨by rfl,?_⟩) ?_
  rotate_left
  · (intro w' hSw; (try dsimp only at hSw); (have j0 := hSw.2.at_ 12 (.int .i64 J.y1) rfl; have j1 := hSw.2.at_ 13 (.int .i64 J.y2) rfl); go_simp <;> with_reducible rfl)
  (try simp only [Act.put,aT,aZ,aS])
  refine wT (i := 17) (v := ?_) rfl (.inl ⟨by rfl,?_⟩) ?_
  rotate_left
  · (intro w' hSw; (try dsimp only at hSw); go_simp <;> with_reducible rfl)
  (try simp only [Act.put,aT,aZ,aS])
  refine wT (i := 18) (v := ?_) rfl (.inl ⟨by rfl,?_⟩) ?_
  rotate_left
  · (intro w' hSw; (try dsimp only at hSw); go_simp <;> with_reducible rfl)
  (try simp only [Act.put,aT,aZ,aS])
  refine wT (i := 19) (v := ?_) rfl (.inl ⟨by rfl,?_⟩) ?_
  rotate_left
  · (intro w' hSw; (try dsimp only at hSw); (have j0 := hSw.2.at_ 14 (.int .i64 J.le) rfl); go_simp <;> with_reducible rfl)
  (try simp only [Act.put,aT,aZ,aS])
  refine wpAnyH_ready (rs := [4]) (by kernel_rfl) (by simp) ?_
  refine AllReadyH.cons rfl (fun K hK => ?_) ?_
  · go_simp
    go_at_call 30
    refine (H1.out _ (Hh.out.keep hS.1 Hh.out.room)).mono ?_
    rintro e w2 ⟨rfl,hb2⟩
    go_wp2_with fail
    have hS_ := hS.next hb2
    clear hb2 hS
    refine hK.out _ _ hS_ (fun _ => ?_)
    have hS := hS_
    clear hS_
    clear hK K
    (try simp only [Act.put,aT,aZ,aS])
    refine wpAnyH_ready (rs := [8]) (by kernel_rfl) (by simp) ?_
    refine AllReadyH.cons rfl (fun K hK => ?_) ?_
    · go_simp
      go_at_call 30
      refine (H2.out _ (Hh.out.keep hS.1 Hh.out.room)).mono ?_
      rintro e w3 ⟨rfl,hb2⟩
      go_wp2_with fail
      have hS_ := hS.next hb2
      clear hb2 hS
      refine hK.out _ _ hS_ (fun _ => ?_)
      have hS := hS_
      clear hS_
      clear hK K
      (try simp only [Act.put,aT,aZ,aS])
      refine wpAnyH_ready (rs := [12]) (by kernel_rfl) (by simp) ?_
      refine AllReadyH.cons rfl (fun K hK => ?_) ?_
      · go_simp
        go_at_call 30
        refine (H3.out _ (Hh.out.keep hS.1 Hh.out.room)).mono ?_
        rintro e w4 ⟨rfl,hb2⟩
        go_wp2_with fail
        have hS_ := hS.next hb2
        clear hb2 hS
        refine hK.out _ _ hS_ (fun _ => ?_)
        have hS := hS_
        clear hS_
        clear hK K
        (try simp only [Act.put,aT,aZ,aS])
        refine wpAnyH_ready (rs := [16]) (by kernel_rfl) (by simp) ?_
        refine AllReadyH.cons rfl (fun K hK => ?_) ?_
        · go_simp
          go_at_call 30
          refine (H4.out _ (Hh.out.keep hS.1 Hh.out.room)).mono ?_
          rintro e w5 ⟨rfl,hb2⟩
          go_wp2_with fail
          have hS_ := hS.next hb2
          clear hb2 hS
          refine hK.out _ _ hS_ (fun _ => ?_)
          have hS := hS_
          clear hS_
          clear hK K
          (try simp only [Act.put,aT,aZ,aS])
          refine wpAnyH_ready (rs := [20]) (by kernel_rfl) (by simp) ?_
          refine AllReadyH.cons rfl (fun K hK => ?_) ?_
          · go_simp
            go_at_call 31
            refine (H5.out _ (Hh.out.keep hS.1 Hh.out.room)).mono ?_
            rintro e w6 ⟨rfl,hb2⟩
            go_wp2_with fail
            have hS_ := hS.next hb2
            clear hb2 hS
            refine hK.out _ _ hS_ (fun _ => ?_)
            have hS := hS_
            clear hS_
            clear hK K
            (try simp only [Act.put,aT,aZ,aS])
            refine wpAnyH_ready (rs := [21]) (by kernel_rfl) (by simp) ?_
            refine AllReadyH.cons rfl (fun K hK => ?_) ?_
            · have al_ : Below w6.heap.size w6 (w6.alloc (.cells #[.string ⟨#[102,105,108,101]⟩,.string T1,.string T2,.string T3,.string T4,.string T5] 9)) := (Below.refl _ _).alloc (Nat.le_refl _) _
              have hB : Bk (w6.alloc (.cells #[.string ⟨#[102,105,108,101]⟩,.string T1,.string T2,.string T3,.string T4,.string T5] 9)) w6.heap.size 9 #[.string ⟨#[102,105,108,101]⟩,.string T1,.string T2,.string T3,.string T4,.string T5] := Bk.new _ _ _
              have hS_ := hS.next al_
              go_simp
              show K _ (w6.alloc (.cells #[.string ⟨#[102,105,108,101]⟩,.string T1,.string T2,.string T3,.string T4,.string T5] 9))
              refine hK.out _ _ hS_ (fun _ => ?_)
              clear hS al_
              have hS := hS_
              clear hS_
              generalize w6.heap.size = g_ at hB ⊢
              generalize (w6.alloc (.cells #[.string ⟨#[102,105,108,101]⟩,.string T1,.string T2,.string T3,.string T4,.string T5] 9)) = w7 at hB hS ⊢
              clear hK K
              (try simp only [Act.put,aT,aZ,aS])
              refine wpAnyH_ready (rs := [22]) (by kernel_rfl) (by simp) ?_
              refine AllReadyH.cons rfl (fun K hK => ?_) ?_
              · go_simp
                go_at_call 29
                refine (HL.out _ g_ hB).mono ?_
                rintro e w8 ⟨rfl,hb2⟩
                go_wp2_with fail
                have hS_ := hS.next hb2
                clear hb2 hS hB
                refine hK.out _ _ hS_ (fun _ => ?_)
                have hS := hS_
                clear hS_
                clear hK K
                (try simp only [Act.put,aT,aZ,aS])
                refine wT (i := 23) (v := ?_) rfl (.inl ⟨by rfl,?_⟩) ?_
                rotate_left
                · (intro w' hSw; (try dsimp only at hSw); have z1 : ¬ 9223372036854775807 < T0.size + T.size := (by omega); go_simp <;> with_reducible rfl)
                (try simp only [Act.put,aT,aZ,aS])
                refine wpAnyH_ready (rs := [24]) (by kernel_rfl) (by simp) ?_
                refine AllReadyH.cons rfl (fun K hK => ?_) ?_
                · go_simp
                  refine hK.out _ _ hS (fun _ => ?_)
                  clear hK K
                  (try simp only [Act.put,aT,aZ,aS])
                  refine wpAnyH_done (by kernel_rfl) ?_ _
                  exact ⟨rfl,_,_,_,_,_,_,_,_,_,_,_,_,_,_,_,_,_,_,_,_,_,_,_,_,rfl,hS⟩
                exact AllReadyH.nil
              exact AllReadyH.nil
            exact AllReadyH.nil
          exact AllReadyH.nil
        exact AllReadyH.nil
      exact AllReadyH.nil
    exact AllReadyH.nil
  exact AllReadyH.nil
set_option maxHeartbeats 2000000 in
set_option maxRecDepth 100000 in
theorem wr11 {w0 w : World} {g : Nat} {J : Jb} {s : Value} {Q : Exit → Act → World → Prop} {u0 u2 u3 u4 u6 u7 u8 u9 A0 A1 A2 A3 A4 A5 A6 A7 A8 A9 Aa Ab Ac Ad Ae Af Ag Ah Ai Aj Ak Al Am An Ao Ap Aq Ar As At Au Av Aw Ax Ay Az C0 C1 C2 C3 C4 C5 C6 C7 C8 C9 Ca Cb Cc Cd Ce Cf Cg Ch Ci Cj Ck Cl Cm Cn Co Cp Cq Cr Cs : Value} (hl : LibW w0) (hs : WS w0 w g (jobC J s)) {T0 T1 T2 T : ByteArray} (H1 : Hid (ItOK J.wi T1)) (H2 : Hid (ItOK J.me T2)) (HL : Hid (LnOK [⟨#[112,97,115,115]⟩,T1,T2] T)) (hz : T0.size ≤ 1000000 ∧ T.size ≤ 1000000) (hK : ∀ w' : World,WS w0 w' g (jobC J s) → ∀ (v65 v66 v67 v68 v69 v70 v71 v72 v73 v74 : Value),Q .normal ⟨#[u0,(.pointer (some ⟨g,0,none⟩)),(.string (T0 ++ T)),(.int .i64 0),u4,(.string T0),u6,u7,u8,u9,A0,A1,A2,A3,A4,A5,A6,A7,A8,A9,Aa,Ab,Ac,Ad,Ae,Af,Ag,Ah,Ai,Aj,Ak,Al,Am,An,Ao,Ap,Aq,Ar,As,At,Au,Av,Aw,Ax,Ay,Az,C0,C1,C2,C3,C4,C5,C6,C7,C8,C9,Ca,Cb,Cc,Cd,Ce,Cf,Cg,Ch,Ci,v65,v66,v67,v68,v69,v70,v71,v72,v73,v74],[]⟩ w') : Code.wp Tryz.prog (Code.region 11 #[⟨some 65,.move (.tmp 5),9,"text.go:31",#[],none⟩,⟨some 66,.fieldAddr 30 (.tmp 1) 3,0,"text.go:31",#[],none⟩,⟨some 67,.load 3 (.tmp 66),3,"text.go:31",#[⟨1,.data⟩],none⟩,⟨some 68,.call { callee := .value (.func 31),args := #[.tmp 67],argTypes := #[3] },9,"text.go:31",#[⟨2,.data⟩],none⟩,⟨some 69,.fieldAddr 30 (.tmp 1) 4,0,"text.go:31",#[],none⟩,⟨some 70,.load 3 (.tmp 69),3,"text.go:31",#[⟨4,.data⟩],none⟩,⟨some 71,.call { callee := .value (.func 31),args := #[.tmp 70],argTypes := #[3] },9,"text.go:31",#[⟨5,.data⟩,⟨3,.chain⟩],none⟩,⟨some 72,.buildSlice 37 3 #[(0,.const (.string { data := #[112,97,115,115] })),(1,.tmp 68),(2,.tmp 71)],37,"text.go:31",#[⟨3,.data⟩,⟨6,.data⟩],none⟩,⟨some 73,.call { callee := .value (.func 29),args := #[.tmp 72],argTypes := #[37] },9,"text.go:31",#[⟨7,.data⟩,⟨6,.chain⟩],none⟩,⟨some 74,.binOp .add 9 (.tmp 65) (.tmp 73) 9,9,"text.go:31",#[⟨0,.data⟩,⟨8,.data⟩],none⟩,⟨some 2,.assign (.tmp 74),9,"text.go:31",#[⟨9,.data⟩,⟨8,.chain⟩,⟨0,.phase⟩,⟨1,.phase⟩,⟨2,.phase⟩,⟨3,.phase⟩,⟨4,.phase⟩,⟨5,.phase⟩,⟨6,.phase⟩,⟨7,.phase⟩,⟨8,.phase⟩,⟨9,.phase⟩],none⟩,⟨some 3,.assign (.const (.int .i64 0)),38,"text.go:31",#[⟨10,.chain⟩,⟨0,.phase⟩,⟨1,.phase⟩,⟨2,.phase⟩,⟨3,.phase⟩,⟨4,.phase⟩,⟨5,.phase⟩,⟨6,.phase⟩,⟨7,.phase⟩,⟨8,.phase⟩,⟨9,.phase⟩,⟨10,.phase⟩],none⟩] true) Q ⟨#[u0,(.pointer (some ⟨g,0,none⟩)),u2,u3,u4,(.string T0),u6,u7,u8,u9,A0,A1,A2,A3,A4,A5,A6,A7,A8,A9,Aa,Ab,Ac,Ad,Ae,Af,Ag,Ah,Ai,Aj,Ak,Al,Am,An,Ao,Ap,Aq,Ar,As,At,Au,Av,Aw,Ax,Ay,Az,C0,C1,C2,C3,C4,C5,C6,C7,C8,C9,Ca,Cb,Cc,Cd,Ce,Cf,Cg,Ch,Ci,Cj,Ck,Cl,Cm,Cn,Co,Cp,Cq,Cr,Cs],[]⟩ w := by
  have Hh := hidMk hl
  have HK := hidMk hK
  clear hl hK
  refine region_via (R := fun a_ e_ a' w' => e_ = .normal ∧ ∃ (v65 v66 v67 v68 v69 v70 v71 v72 v73 v74 : Value),a' = ((((((((((((a_.put (some 65) v65).put (some 66) v66).put (some 67) v67).put (some 68) v68).put (some 69) v69).put (some 70) v70).put (some 71) v71).put (some 72) v72).put (some 73) v73).put (some 74) v74).put (some 2) (.string (T0 ++ T))).put (some 3) (.int .i64 0)) ∧ WS w0 w' g (jobC J s)) ?_ ?_
  rotate_left
  · rintro e_ a' w' ⟨rfl,v65,v66,v67,v68,v69,v70,v71,v72,v73,v74,rfl,h1⟩
    simp only [Act.put,aT,aZ,aS]
    exact HK.out _ h1 _ _ _ _ _ _ _ _ _ _ 
  have hS := hs.drew
  clear hs
  refine wp_region_held_drew (S := fun w' => WS w0 w' g (jobC J s)) (by kernel_rfl) hS (fun hS0 => ?_)
  clear hS0
  generalize w.drew = w1 at hS ⊢
  refine wT (i := 0) (v := ?_) rfl (.inl ⟨by rfl,?_⟩) ?_
  rotate_left
  · (intro w' hSw; (try dsimp only at hSw); go_simp <;> with_reducible rfl)
  (try simp only [Act.put,aT,aZ,aS])
  refine wT (i := 1) (v := ?_) rfl (.inl ⟨by rfl,?_⟩) ?_
  rotate_left
  · (intro w' hSw; (try dsimp only at hSw); go_simp <;> with_reducible rfl)
  (try simp only [Act.put,aT,aZ,aS])
  refine wT (i := 2) (v := ?_) rfl (.inl ⟨by rfl,?_⟩) ?_
  rotate_left
  · (intro w' hSw; (try dsimp only at hSw); (have j0 := hSw.2.at_ 16 (.int .i64 J.wi) rfl); go_simp <;> with_reducible rfl)
  (try simp only [Act.put,aT,aZ,aS])
  refine wT (i := 4) (v := ?_) rfl (.inl ⟨by rfl,?_⟩) ?_
  rotate_left
  · (intro w' hSw; (try dsimp only at hSw); go_simp <;> with_reducible rfl)
  (try simp only [Act.put,aT,aZ,aS])
  refine wT (i := 5) (v := ?_) rfl (.inl ⟨by rfl,?_⟩) ?_
  rotate_left
  · (intro w' hSw; (try dsimp only at hSw); (have j0 := hSw.2.at_ 17 (.int .i64 J.me) rfl); go_simp <;> with_reducible rfl)
  (try simp only [Act.put,aT,aZ,aS])
  refine wpAnyH_ready (rs := [3]) (by kernel_rfl) (by simp) ?_
  refine AllReadyH.cons rfl (fun K hK => ?_) ?_
  · go_simp
    go_at_call 31
    refine (H1.out _ (Hh.out.keep hS.1 Hh.out.room)).mono ?_
    rintro e w2 ⟨rfl,hb2⟩
    go_wp2_with fail
    have hS_ := hS.next hb2
    clear hb2 hS
    refine hK.out _ _ hS_ (fun _ => ?_)
    have hS := hS_
    clear hS_
    clear hK K
    (try simp only [Act.put,aT,aZ,aS])
    refine wpAnyH_ready (rs := [6]) (by kernel_rfl) (by simp) ?_
    refine AllReadyH.cons rfl (fun K hK => ?_) ?_
    · go_simp
      go_at_call 31
      refine (H2.out _ (Hh.out.keep hS.1 Hh.out.room)).mono ?_
      rintro e w3 ⟨rfl,hb2⟩
      go_wp2_with fail
      have hS_ := hS.next hb2
      clear hb2 hS
      refine hK.out _ _ hS_ (fun _ => ?_)
      have hS := hS_
      clear hS_
      clear hK K
      (try simp only [Act.put,aT,aZ,aS])
      refine wpAnyH_ready (rs := [7]) (by kernel_rfl) (by simp) ?_
      refine AllReadyH.cons rfl (fun K hK => ?_) ?_
      · have al_ : Below w3.heap.size w3 (w3.alloc (.cells #[.string ⟨#[112,97,115,115]⟩,.string T1,.string T2] 9)) := (Below.refl _ _).alloc (Nat.le_refl _) _
        have hB : Bk (w3.alloc (.cells #[.string ⟨#[112,97,115,115]⟩,.string T1,.string T2] 9)) w3.heap.size 9 #[.string ⟨#[112,97,115,115]⟩,.string T1,.string T2] := Bk.new _ _ _
        have hS_ := hS.next al_
        go_simp
        show K _ (w3.alloc (.cells #[.string ⟨#[112,97,115,115]⟩,.string T1,.string T2] 9))
        refine hK.out _ _ hS_ (fun _ => ?_)
        clear hS al_
        have hS := hS_
        clear hS_
        generalize w3.heap.size = g_ at hB ⊢
        generalize (w3.alloc (.cells #[.string ⟨#[112,97,115,115]⟩,.string T1,.string T2] 9)) = w4 at hB hS ⊢
        clear hK K
        (try simp only [Act.put,aT,aZ,aS])
        refine wpAnyH_ready (rs := [8]) (by kernel_rfl) (by simp) ?_
        refine AllReadyH.cons rfl (fun K hK => ?_) ?_
        · go_simp
          go_at_call 29
          refine (HL.out _ g_ hB).mono ?_
          rintro e w5 ⟨rfl,hb2⟩
          go_wp2_with fail
          have hS_ := hS.next hb2
          clear hb2 hS hB
          refine hK.out _ _ hS_ (fun _ => ?_)
          have hS := hS_
          clear hS_
          clear hK K
          (try simp only [Act.put,aT,aZ,aS])
          refine wT (i := 9) (v := ?_) rfl (.inl ⟨by rfl,?_⟩) ?_
          rotate_left
          · (intro w' hSw; (try dsimp only at hSw); have z1 : ¬ 9223372036854775807 < T0.size + T.size := (by omega); go_simp <;> with_reducible rfl)
          (try simp only [Act.put,aT,aZ,aS])
          refine wpAnyH_ready (rs := [10]) (by kernel_rfl) (by simp) ?_
          refine AllReadyH.cons rfl (fun K hK => ?_) ?_
          · go_simp
            refine hK.out _ _ hS (fun _ => ?_)
            clear hK K
            (try simp only [Act.put,aT,aZ,aS])
            refine wpAnyH_ready (rs := [11]) (by kernel_rfl) (by simp) ?_
            refine AllReadyH.cons rfl (fun K hK => ?_) ?_
            · go_simp
              refine hK.out _ _ hS (fun _ => ?_)
              clear hK K
              (try simp only [Act.put,aT,aZ,aS])
              refine wpAnyH_done (by kernel_rfl) ?_ _
              exact ⟨rfl,_,_,_,_,_,_,_,_,_,_,rfl,hS⟩
            exact AllReadyH.nil
          exact AllReadyH.nil
        exact AllReadyH.nil
      exact AllReadyH.nil
    exact AllReadyH.nil
  exact AllReadyH.nil
end Go.Proofs.YtljefjngmembkaaGreatDoor
namespace Go.Proofs.YtljefjngmembkaaGreatDoor
set_option linter.all false
open Go.RowKit

set_option maxHeartbeats 400000 in
theorem first_any (a : Option Addr) (n c : Nat) (l : List Int) (w : World) (hn : n = l.length) (hm : n ≤ 1000) (h : Is w w.heap.size a l) :
    Calls Tryz.prog 49 #[.slice a n c] w fun e w' => e = .returned (.int .i64 (firstE l)) ∧ w = w' := by
  have Hn : Hid (n = l.length) := hn
  clear hn
  have Hh : Hid (Is w w.heap.size a l) := h
  clear h
  go_enter Tryz.func49,Tryz.ntmps49
  go_wp2
  go_loop [7] (fun i => ∃ k : Nat,k ≤ n ∧ i = .int .i64 k ∧ firstE l = firstE (l.drop k)) (fun i => n - (intOf i).toNat)
  case atStart => exact ⟨0,Nat.zero_le _,rfl,rfl⟩
  case round =>
    obtain ⟨k,hk,rfl,hf⟩ := hrel
    have Hf : Hid (firstE l = firstE (l.drop k)) := hf
    clear hf
    by_cases hlt : k < n
    · have hkl : k < l.length := by rw [← Hn.out]; exact hlt
      obtain ⟨b,off,rfl,hbl,e0⟩ := Hh.out k l[k] (List.getElem?_eq_getElem hkl)
      have hd : l.drop k = l[k] :: l.drop (k + 1) := List.drop_eq_getElem_cons hkl
      have Hd : Hid (l.drop k = l[k] :: l.drop (k + 1)) := hd
      clear hd
      by_cases hz : (l[k] != 0) = true
      · go_wp2
        go_ret
        exact ⟨ret_i (by rw [Hf.out,Hd.out,firstE,if_neg (by simpa using hz)]),rfl⟩
      · replace hz : (l[k] != 0) = false := by simpa using hz
        go_wp2
        go_round
        case rel => exact ⟨k + 1,by omega,by go_num,by rw [Hf.out,Hd.out,firstE,if_pos (by simpa using hz)]⟩
        case measure => simp [intOf]; omega
    · obtain rfl : k = n := by omega
      go_wp2
      go_ret
      exact ⟨ret_i (by rw [Hf.out,List.drop_of_length_le (by rw [← Hn.out]; omega)]; rfl),rfl⟩
end Go.Proofs.YtljefjngmembkaaGreatDoor
namespace Go.Proofs.YtljefjngmembkaaGreatDoor
set_option linter.all false
open Go.RowKit

theorem rng_first (a b lo hi : Int) : firstE [numE a lo hi,numE b lo hi] = (if a < lo ∨ hi < a then 1 else if b < lo ∨ hi < b then 1 else 0) := by
  unfold firstE firstE firstE numE
  by_cases h1 : a < lo ∨ hi < a <;> by_cases h2 : b < lo ∨ hi < b <;> simp [h1,h2]

theorem two_new (w : World) (C D : Array Value) (t u : TypeId) : Bk ((w.alloc (.cells C t)).alloc (.cells D u)) (w.heap.size + 1) u D := by
  have := Bk.new (w.alloc (.cells C t)) u D
  rwa [World.size_alloc] at this

set_option maxHeartbeats 400000 in
theorem checkRange_any (a b lo hi : Int) (w : World) :
    Calls Tryz.prog 50 #[.agg #[.int .i64 a,.int .i64 b],.int .i64 lo,.int .i64 hi] w fun e w' => e = .returned (.int .i64 (rngE a b lo hi)) ∧ Below w.heap.size w w' := by
  by_cases h0 : firstE [numE a lo hi,numE b lo hi] = 0
  · have hb : (firstE [numE a lo hi,numE b lo hi] == 0) = true := by simp [h0]
    have He : Hid (rngE a b lo hi = if b < a then 5 else 0) := by
      show rngE a b lo hi = if b < a then 5 else 0
      rw [rng_first] at h0
      unfold rngE
      by_cases h1 : a < lo ∨ hi < a <;> by_cases h2 : b < lo ∨ hi < b <;> simp [h1,h2] at h0 ⊢
    have H0 : Hid (firstE [numE a lo hi,numE b lo hi] = 0) := h0
    clear h0
    by_cases hba : b < a
    · go_enter Tryz.func50,Tryz.ntmps50
      go_wp2_with fail
      go_region_held3 (fun w' => w'.cell? ⟨w.heap.size,0,none⟩ = some (.int .i64 a) ∧ w'.cell? ⟨w.heap.size,1,none⟩ = some (.int .i64 b)) (go_keep)
        (first | (go_at_call 51; refine (checkNumber_any _ _ _ _).mono ?_; rintro e w' ⟨rfl,rfl⟩) | (go_at_call 49; refine (first_any _ _ _ [numE a lo hi,numE b lo hi] _ rfl (by simp) ?_).mono ?_; (exact Is.of_bk (g := w.heap.size + 1) (t := 38) _ (two_new w _ _ _ _) (by simp)); rintro e w' ⟨rfl,rfl⟩))
      go_wp2_with (go_at_call 41; refine (empty_any _ _ _).mono ?_; rintro e w' ⟨rfl,rfl⟩)
      go_ret
      refine ⟨ret_i (by rw [He.out,if_pos hba]),?_⟩
      exact ((((Below.refl _ _).alloc (Nat.le_refl _) _).alloc (by simp) _).alloc (by simp; omega) _).drew
    · go_enter Tryz.func50,Tryz.ntmps50
      go_wp2_with fail
      go_region_held3 (fun w' => w'.cell? ⟨w.heap.size,0,none⟩ = some (.int .i64 a) ∧ w'.cell? ⟨w.heap.size,1,none⟩ = some (.int .i64 b)) (go_keep)
        (first | (go_at_call 51; refine (checkNumber_any _ _ _ _).mono ?_; rintro e w' ⟨rfl,rfl⟩) | (go_at_call 49; refine (first_any _ _ _ [numE a lo hi,numE b lo hi] _ rfl (by simp) ?_).mono ?_; (exact Is.of_bk (g := w.heap.size + 1) (t := 38) _ (two_new w _ _ _ _) (by simp)); rintro e w' ⟨rfl,rfl⟩))
      go_wp2_with (go_at_call 41; refine (empty_any _ _ _).mono ?_; rintro e w' ⟨rfl,rfl⟩)
      go_ret
      refine ⟨ret_i (by rw [He.out,H0.out,if_neg (by omega)]),?_⟩
      exact ((((Below.refl _ _).alloc (Nat.le_refl _) _).alloc (by simp) _).alloc (by simp; omega) _).drew
  · have hb : (firstE [numE a lo hi,numE b lo hi] == 0) = false := by simp [h0]
    have He : Hid (rngE a b lo hi = firstE [numE a lo hi,numE b lo hi]) := by
      show rngE a b lo hi = firstE [numE a lo hi,numE b lo hi]
      rw [rng_first] at h0 ⊢
      unfold rngE
      by_cases h1 : a < lo ∨ hi < a <;> by_cases h2 : b < lo ∨ hi < b <;> simp [h1,h2] at h0 ⊢
    clear h0
    go_enter Tryz.func50,Tryz.ntmps50
    go_wp2_with fail
    go_region_held3 (fun w' => w'.cell? ⟨w.heap.size,0,none⟩ = some (.int .i64 a) ∧ w'.cell? ⟨w.heap.size,1,none⟩ = some (.int .i64 b)) (go_keep)
      (first | (go_at_call 51; refine (checkNumber_any _ _ _ _).mono ?_; rintro e w' ⟨rfl,rfl⟩) | (go_at_call 49; refine (first_any _ _ _ [numE a lo hi,numE b lo hi] _ rfl (by simp) ?_).mono ?_; (exact Is.of_bk (g := w.heap.size + 1) (t := 38) _ (two_new w _ _ _ _) (by simp)); rintro e w' ⟨rfl,rfl⟩))
    go_wp2_with (go_at_call 41; refine (empty_any _ _ _).mono ?_; rintro e w' ⟨rfl,rfl⟩)
    go_ret
    refine ⟨ret_i (by rw [He.out]),?_⟩
    exact (((Below.refl _ _).alloc (Nat.le_refl _) _).alloc (by simp) _).drew

theorem head_first (J : Jb) : firstE [rngE J.p1 J.p2 (-60) 60,rngE J.t1 J.t2 0 100,rngE J.r1 J.r2 0 100,rngE J.u1 J.u2 0 12,rngE J.d1 J.d2 0 12,rngE J.x1 J.x2 0 12,rngE J.y1 J.y2 0 12,numE J.le 0 100] = J.head := rfl

set_option maxHeartbeats 1000000 in
set_option maxRecDepth 100000 in
theorem check_bad (J : Jb) (a : Option Addr) (n c : Nat) (w : World) (hj : J.head ≠ 0) :
    Calls Tryz.prog 28 #[.agg (jobC J (.slice a n c))] w fun e w' => e = .returned (.int .i64 J.head) ∧ Below w.heap.size w w' := by
  have hbad : (firstE [rngE J.p1 J.p2 (-60) 60,rngE J.t1 J.t2 0 100,rngE J.r1 J.r2 0 100,rngE J.u1 J.u2 0 12,rngE J.d1 J.d2 0 12,rngE J.x1 J.x2 0 12,rngE J.y1 J.y2 0 12,numE J.le 0 100] != 0) = true := by rw [head_first]; simpa using hj
  clear hj
  go_enter Tryz.func28,Tryz.ntmps28
  go_wp2_with fail
  have hk0 := Bk.new w 30 (jobC J (.slice a n c))
  have hB : Below (w.heap.size + 1) (w.alloc (.cells (jobC J (.slice a n c)) 30)) (w.alloc (.cells (jobC J (.slice a n c)) 30)) := Below.refl _ _
  go_region_held3 (fun w' => w'.cell? ⟨w.heap.size,0,none⟩ = some (.int .i64 J.p1) ∧ w'.cell? ⟨w.heap.size,1,none⟩ = some (.int .i64 J.p2) ∧ w'.cell? ⟨w.heap.size,2,none⟩ = some (.int .i64 J.t1) ∧ w'.cell? ⟨w.heap.size,3,none⟩ = some (.int .i64 J.t2) ∧ w'.cell? ⟨w.heap.size,4,none⟩ = some (.int .i64 J.r1) ∧ w'.cell? ⟨w.heap.size,5,none⟩ = some (.int .i64 J.r2) ∧ w'.cell? ⟨w.heap.size,6,none⟩ = some (.int .i64 J.u1) ∧ w'.cell? ⟨w.heap.size,7,none⟩ = some (.int .i64 J.u2) ∧ w'.cell? ⟨w.heap.size,8,none⟩ = some (.int .i64 J.d1) ∧ w'.cell? ⟨w.heap.size,9,none⟩ = some (.int .i64 J.d2) ∧ w'.cell? ⟨w.heap.size,10,none⟩ = some (.int .i64 J.x1) ∧ w'.cell? ⟨w.heap.size,11,none⟩ = some (.int .i64 J.x2) ∧ w'.cell? ⟨w.heap.size,12,none⟩ = some (.int .i64 J.y1) ∧ w'.cell? ⟨w.heap.size,13,none⟩ = some (.int .i64 J.y2) ∧ w'.cell? ⟨w.heap.size,14,none⟩ = some (.int .i64 J.le)) (go_keep)
    (first | (go_at_call 50; refine (checkRange_any _ _ _ _ _).mono ?_; rintro e w' ⟨rfl,hb⟩; obtain ⟨hc,hf⟩ := bcell hb; (have hB' := (by first | exact chainB hB (by simp) hb | exact chainB hB.drew (by simp) hb : Below (w.heap.size + 1) (w.alloc (.cells (jobC J (.slice a n c)) 30)) w')); clear hB; have hB := hB'; clear hB'; (have hz : w.heap.size < w'.heap.size := by have := hB.size; (try simp at this); omega)) | (go_at_call 51; refine (checkNumber_any _ _ _ _).mono ?_; rintro e w' ⟨rfl,rfl⟩) | (go_at_call 49; refine (first_any _ _ _ [rngE J.p1 J.p2 (-60) 60,rngE J.t1 J.t2 0 100,rngE J.r1 J.r2 0 100,rngE J.u1 J.u2 0 12,rngE J.d1 J.d2 0 12,rngE J.x1 J.x2 0 12,rngE J.y1 J.y2 0 12,numE J.le 0 100] _ rfl (by simp) ?_).mono ?_; (first | exact Is.of_bk _ (Bk.new _ _ _) (by simp) | exact Is.of_bk _ (Bk.new _ _ _).drew (by simp)); rintro e w' ⟨rfl,rfl⟩))
  go_wp2
  go_ret
  exact ⟨ret_i (head_first J),(((Below.refl _ _).alloc (Nat.le_refl _) _).trans (hB.mono (by omega))).alloc (by omega) _⟩

set_option maxHeartbeats 1000000 in
set_option maxRecDepth 100000 in
theorem check_many (J : Jb) (a : Option Addr) (n c : Nat) (w : World) (hj : J.head = 0) (hn : 4 < n) (hm : n ≤ 9223372036854775807) :
    Calls Tryz.prog 28 #[.agg (jobC J (.slice a n c))] w fun e w' => e = .returned (.int .i64 6) ∧ Below w.heap.size w w' := by
  have hbad : (firstE [rngE J.p1 J.p2 (-60) 60,rngE J.t1 J.t2 0 100,rngE J.r1 J.r2 0 100,rngE J.u1 J.u2 0 12,rngE J.d1 J.d2 0 12,rngE J.x1 J.x2 0 12,rngE J.y1 J.y2 0 12,numE J.le 0 100] != 0) = false := by rw [head_first]; simpa using hj
  clear hj
  go_enter Tryz.func28,Tryz.ntmps28
  go_wp2_with fail
  have hk0 := Bk.new w 30 (jobC J (.slice a n c))
  have hB : Below (w.heap.size + 1) (w.alloc (.cells (jobC J (.slice a n c)) 30)) (w.alloc (.cells (jobC J (.slice a n c)) 30)) := Below.refl _ _
  go_region_held3 (fun w' => w'.cell? ⟨w.heap.size,0,none⟩ = some (.int .i64 J.p1) ∧ w'.cell? ⟨w.heap.size,1,none⟩ = some (.int .i64 J.p2) ∧ w'.cell? ⟨w.heap.size,2,none⟩ = some (.int .i64 J.t1) ∧ w'.cell? ⟨w.heap.size,3,none⟩ = some (.int .i64 J.t2) ∧ w'.cell? ⟨w.heap.size,4,none⟩ = some (.int .i64 J.r1) ∧ w'.cell? ⟨w.heap.size,5,none⟩ = some (.int .i64 J.r2) ∧ w'.cell? ⟨w.heap.size,6,none⟩ = some (.int .i64 J.u1) ∧ w'.cell? ⟨w.heap.size,7,none⟩ = some (.int .i64 J.u2) ∧ w'.cell? ⟨w.heap.size,8,none⟩ = some (.int .i64 J.d1) ∧ w'.cell? ⟨w.heap.size,9,none⟩ = some (.int .i64 J.d2) ∧ w'.cell? ⟨w.heap.size,10,none⟩ = some (.int .i64 J.x1) ∧ w'.cell? ⟨w.heap.size,11,none⟩ = some (.int .i64 J.x2) ∧ w'.cell? ⟨w.heap.size,12,none⟩ = some (.int .i64 J.y1) ∧ w'.cell? ⟨w.heap.size,13,none⟩ = some (.int .i64 J.y2) ∧ w'.cell? ⟨w.heap.size,14,none⟩ = some (.int .i64 J.le)) (go_keep)
    (first | (go_at_call 50; refine (checkRange_any _ _ _ _ _).mono ?_; rintro e w' ⟨rfl,hb⟩; obtain ⟨hc,hf⟩ := bcell hb; (have hB' := (by first | exact chainB hB (by simp) hb | exact chainB hB.drew (by simp) hb : Below (w.heap.size + 1) (w.alloc (.cells (jobC J (.slice a n c)) 30)) w')); clear hB; have hB := hB'; clear hB'; (have hz : w.heap.size < w'.heap.size := by have := hB.size; (try simp at this); omega)) | (go_at_call 51; refine (checkNumber_any _ _ _ _).mono ?_; rintro e w' ⟨rfl,rfl⟩) | (go_at_call 49; refine (first_any _ _ _ [rngE J.p1 J.p2 (-60) 60,rngE J.t1 J.t2 0 100,rngE J.r1 J.r2 0 100,rngE J.u1 J.u2 0 12,rngE J.d1 J.d2 0 12,rngE J.x1 J.x2 0 12,rngE J.y1 J.y2 0 12,numE J.le 0 100] _ rfl (by simp) ?_).mono ?_; (first | exact Is.of_bk _ (Bk.new _ _ _) (by simp) | exact Is.of_bk _ (Bk.new _ _ _).drew (by simp)); rintro e w' ⟨rfl,rfl⟩))
  have hk := hk0.below hB (by omega)
  have c15 := hk.at_ 15 _ rfl
  clear hk0 hk
  go_wp2
  go_ret
  exact ⟨rfl,(((Below.refl _ _).alloc (Nat.le_refl _) _).trans (hB.mono (by omega))).alloc (by omega) _⟩

end Go.Proofs.YtljefjngmembkaaGreatDoor
namespace Go.Proofs.YtljefjngmembkaaGreatDoor
set_option linter.all false
open Go.RowKit

set_option maxHeartbeats 2000000 in
set_option maxRecDepth 100000 in
theorem check_few (J : Jb) (a : Option Addr) (n c : Nat) (w : World) (hj : J.head = 0) (hn : n = J.sh.length) (hm : n ≤ 4) (h : Rg w w.heap.size a J.sh) :
    Calls Tryz.prog 28 #[.agg (jobC J (.slice a n c))] w fun e w' => e = .returned (.int .i64 J.check) ∧ Below w.heap.size w w' := by
  have hbad : (firstE [rngE J.p1 J.p2 (-60) 60,rngE J.t1 J.t2 0 100,rngE J.r1 J.r2 0 100,rngE J.u1 J.u2 0 12,rngE J.d1 J.d2 0 12,rngE J.x1 J.x2 0 12,rngE J.y1 J.y2 0 12,numE J.le 0 100] != 0) = false := by rw [head_first]; simpa using hj
  have Hj : Hid (J.check = if shE J.sh = 0 then firstE [numE J.wi 0 60,numE J.me 0 6] else shE J.sh) := by
    show J.check = if shE J.sh = 0 then firstE [numE J.wi 0 60,numE J.me 0 6] else shE J.sh
    unfold Jb.check
    rw [if_pos hj,if_neg (by omega)]
  clear hj
  have Hn : Hid (n = J.sh.length) := hn
  clear hn
  have Hh : Hid (Rg w w.heap.size a J.sh) := h
  clear h
  go_enter Tryz.func28,Tryz.ntmps28
  go_wp2_with fail
  have hk0 := Bk.new w 30 (jobC J (.slice a n c))
  have hB : Below (w.heap.size + 1) (w.alloc (.cells (jobC J (.slice a n c)) 30)) (w.alloc (.cells (jobC J (.slice a n c)) 30)) := Below.refl _ _
  go_region_held3 (fun w' => w'.cell? ⟨w.heap.size,0,none⟩ = some (.int .i64 J.p1) ∧ w'.cell? ⟨w.heap.size,1,none⟩ = some (.int .i64 J.p2) ∧ w'.cell? ⟨w.heap.size,2,none⟩ = some (.int .i64 J.t1) ∧ w'.cell? ⟨w.heap.size,3,none⟩ = some (.int .i64 J.t2) ∧ w'.cell? ⟨w.heap.size,4,none⟩ = some (.int .i64 J.r1) ∧ w'.cell? ⟨w.heap.size,5,none⟩ = some (.int .i64 J.r2) ∧ w'.cell? ⟨w.heap.size,6,none⟩ = some (.int .i64 J.u1) ∧ w'.cell? ⟨w.heap.size,7,none⟩ = some (.int .i64 J.u2) ∧ w'.cell? ⟨w.heap.size,8,none⟩ = some (.int .i64 J.d1) ∧ w'.cell? ⟨w.heap.size,9,none⟩ = some (.int .i64 J.d2) ∧ w'.cell? ⟨w.heap.size,10,none⟩ = some (.int .i64 J.x1) ∧ w'.cell? ⟨w.heap.size,11,none⟩ = some (.int .i64 J.x2) ∧ w'.cell? ⟨w.heap.size,12,none⟩ = some (.int .i64 J.y1) ∧ w'.cell? ⟨w.heap.size,13,none⟩ = some (.int .i64 J.y2) ∧ w'.cell? ⟨w.heap.size,14,none⟩ = some (.int .i64 J.le)) (go_keep)
    (first | (go_at_call 50; refine (checkRange_any _ _ _ _ _).mono ?_; rintro e w' ⟨rfl,hb⟩; obtain ⟨hc,hf⟩ := bcell hb; (have hB' := (by first | exact chainB hB (by simp) hb | exact chainB hB.drew (by simp) hb : Below (w.heap.size + 1) (w.alloc (.cells (jobC J (.slice a n c)) 30)) w')); clear hB; have hB := hB'; clear hB'; (have hz : w.heap.size < w'.heap.size := by have := hB.size; (try simp at this); omega)) | (go_at_call 51; refine (checkNumber_any _ _ _ _).mono ?_; rintro e w' ⟨rfl,rfl⟩) | (go_at_call 49; refine (first_any _ _ _ [rngE J.p1 J.p2 (-60) 60,rngE J.t1 J.t2 0 100,rngE J.r1 J.r2 0 100,rngE J.u1 J.u2 0 12,rngE J.d1 J.d2 0 12,rngE J.x1 J.x2 0 12,rngE J.y1 J.y2 0 12,numE J.le 0 100] _ rfl (by simp) ?_).mono ?_; (first | exact Is.of_bk _ (Bk.new _ _ _) (by simp) | exact Is.of_bk _ (Bk.new _ _ _).drew (by simp)); rintro e w' ⟨rfl,rfl⟩))
  have hk := hk0.below hB (by omega)
  have c15 := hk.at_ 15 _ rfl
  have hB1 : Below w.heap.size w w' := ((Below.refl _ _).alloc (Nat.le_refl _) _).trans (hB.mono (by omega))
  clear hk0 hB
  go_wp2
  go_loopw [51] (fun i wr => ∃ k : Nat,k ≤ n ∧ i = .int .i64 k ∧ shE J.sh = shE (J.sh.drop k) ∧ Bk wr w.heap.size 30 (jobC J (.slice a n c)) ∧ Below w.heap.size w wr) (fun i _ => n - (intOf i).toNat)
  case atStart => exact ⟨0,Nat.zero_le _,rfl,rfl,hk.alloc _,hB1.alloc (by omega) _⟩
  case round =>
    clear hB1 hk c15 hbad
    obtain ⟨k,hk,rfl,hf,hj,hB⟩ := hrel
    have Hf : Hid (shE J.sh = shE (J.sh.drop k)) := hf
    clear hf
    have hz := hB.size
    have hl := hj.lt
    by_cases hlt : k < n
    · have hkl : k < J.sh.length := by rw [← Hn.out]; exact hlt
      obtain ⟨b,off,rfl,hbl,e0,e1⟩ := Hh.out k J.sh[k] (List.getElem?_eq_getElem hkl)
      replace e0 := (hB.cell (p := ⟨b,off + k * 2,none⟩) hbl).trans e0
      replace e1 := (hB.cell (p := ⟨b,off + k * 2 + 1,none⟩) hbl).trans e1
      have hbl' : b < wr.heap.size := by omega
      have Hd : Hid (J.sh.drop k = J.sh[k] :: J.sh.drop (k + 1)) := List.drop_eq_getElem_cons hkl
      by_cases hz0 : rngE J.sh[k].1 J.sh[k].2 (-60) 60 = 0
      · have hz1 : (rngE J.sh[k].1 J.sh[k].2 (-60) 60 != 0) = false := by simp [hz0]
        have Hz : Hid (rngE J.sh[k].1 J.sh[k].2 (-60) 60 = 0) := hz0
        clear hz0
        go_wp2_with (go_at_call 50; refine (checkRange_any _ _ _ _ _).mono ?_; rintro e w2 ⟨rfl,hb⟩)
        go_roundw
        case rel => exact ⟨k + 1,by omega,by go_num,by rw [Hf.out,Hd.out,shE,if_pos Hz.out],(hj.alloc _).below hb (by simp; omega),(hB.alloc (by omega) _).trans (hb.mono (by simp; omega))⟩
        case measure => simp [intOf]; omega
      · have hz1 : (rngE J.sh[k].1 J.sh[k].2 (-60) 60 != 0) = true := by simp [hz0]
        have Hz : Hid (¬ rngE J.sh[k].1 J.sh[k].2 (-60) 60 = 0) := hz0
        clear hz0
        go_wp2_with (go_at_call 50; refine (checkRange_any _ _ _ _ _).mono ?_; rintro e w2 ⟨rfl,hb⟩)
        go_ret
        have e : shE J.sh = rngE J.sh[k].1 J.sh[k].2 (-60) 60 := by rw [Hf.out,Hd.out,shE,if_neg Hz.out]
        exact ⟨ret_i (by rw [Hj.out,e,if_neg Hz.out]),(hB.alloc (by omega) _).trans (hb.mono (by simp; omega))⟩
    · obtain rfl : k = n := by omega
      have c16 := hj.at_ 16 _ rfl
      have c17 := hj.at_ 17 _ rfl
      go_wp2_with fail
      go_region_held3 (fun w' => w'.cell? ⟨w.heap.size,16,none⟩ = some (.int .i64 J.wi) ∧ w'.cell? ⟨w.heap.size,17,none⟩ = some (.int .i64 J.me)) (go_keep)
        (first | (go_at_call 51; refine (checkNumber_any _ _ _ _).mono ?_; rintro e w' ⟨rfl,rfl⟩) | (go_at_call 49; refine (first_any _ _ _ [numE J.wi 0 60,numE J.me 0 6] _ rfl (by simp) ?_).mono ?_; (first | exact Is.of_bk _ (Bk.new _ _ _) (by simp) | exact Is.of_bk _ (Bk.new _ _ _).drew (by simp)); rintro e w' ⟨rfl,rfl⟩))
      go_wp2
      go_ret
      have e : shE J.sh = 0 := by rw [Hf.out,List.drop_of_length_le (by rw [← Hn.out]; omega)]; rfl
      exact ⟨ret_i (by rw [Hj.out,if_pos e]),(hB.alloc (by omega) _).drew⟩

theorem check_any (J : Jb) (a : Option Addr) (n c : Nat) (w : World) (hn : n = J.sh.length) (hm : n ≤ 9223372036854775807) (h : Rg w w.heap.size a J.sh) :
    Calls Tryz.prog 28 #[.agg (jobC J (.slice a n c))] w fun e w' => e = .returned (.int .i64 J.check) ∧ Below w.heap.size w w' := by
  by_cases hj : J.head = 0
  · by_cases h4 : 4 < n
    · have e : J.check = 6 := by unfold Jb.check; rw [if_pos hj,if_pos (by omega)]
      rw [e]
      exact check_many J a n c w hj h4 hm
    · exact check_few J a n c w hj hn (by omega) h
  · have e : J.check = J.head := by unfold Jb.check; rw [if_neg hj]
    rw [e]
    exact check_bad J a n c w hj
end Go.Proofs.YtljefjngmembkaaGreatDoor
namespace Go.Proofs.YtljefjngmembkaaGreatDoor
set_option linter.all false
open Go.RowKit

theorem infoRange : (Tryz.prog.info? 23).map (fun i => (i.zero,i.size,i.bytes)) = some (some (.agg #[.int .i64 0,.int .i64 0]),2,16) := by kernel_rfl

theorem rgCells_snoc : ∀ (l : List R2) (r : R2),rgCells (l ++ [r]) = rgCells l ++ [.int .i64 r.1,.int .i64 r.2]
  | [],r => rfl
  | x :: l,r => by simp [rgCells,rgCells_snoc l r]

theorem rgCells_len : ∀ l : List R2,(rgCells l).length = l.length * 2
  | [] => rfl
  | x :: l => by simp [rgCells,rgCells_len l]; omega
end Go.Proofs.YtljefjngmembkaaGreatDoor
namespace Go.Proofs.YtljefjngmembkaaGreatDoor
set_option linter.all false
open Go.RowKit

def zeros : Nat → Array Value := fun n => Array.replicate n (.int .i64 0)

end Go.Proofs.YtljefjngmembkaaGreatDoor
namespace Go.Proofs.YtljefjngmembkaaGreatDoor
set_option linter.all false
open Go.RowKit

theorem rngE_ok {a b lo hi : Int} (h : rngE a b lo hi = 0) : lo ≤ a ∧ a ≤ hi ∧ lo ≤ b ∧ b ≤ hi ∧ a ≤ b := by
  unfold rngE at h
  by_cases h1 : a < lo ∨ hi < a
  · rw [if_pos h1] at h; omega
  · rw [if_neg h1] at h
    by_cases h2 : b < lo ∨ hi < b
    · rw [if_pos h2] at h; omega
    · rw [if_neg h2] at h
      by_cases h3 : b < a
      · rw [if_pos h3] at h; omega
      · omega
theorem numE_ok {a lo hi : Int} (h : numE a lo hi = 0) : lo ≤ a ∧ a ≤ hi := by
  unfold numE at h
  by_cases h1 : a < lo ∨ hi < a
  · rw [if_pos h1] at h; omega
  · omega
theorem firstE_ok : ∀ (l : List Int),firstE l = 0 → ∀ x ∈ l,x = 0
  | [],_,x,h => by simp at h
  | e :: l,h,x,hx => by
    unfold firstE at h
    by_cases h0 : e = 0
    · rw [if_pos h0] at h
      rcases List.mem_cons.1 hx with rfl | hx
      · exact h0
      · exact firstE_ok l h x hx
    · rw [if_neg h0] at h; exact absurd h h0
theorem shE_ok : ∀ (l : List R2),shE l = 0 → ∀ s ∈ l,rngE s.1 s.2 (-60) 60 = 0
  | [],_,s,h => by simp at h
  | e :: l,h,s,hs => by
    unfold shE at h
    by_cases h0 : rngE e.1 e.2 (-60) 60 = 0
    · rw [if_pos h0] at h
      rcases List.mem_cons.1 hs with rfl | hs
      · exact h0
      · exact shE_ok l h s hs
    · rw [if_neg h0] at h; exact absurd h h0

theorem results_row_tmp {P : Program} {fn : Func} {p u : Tmp} {ty : TypeId} {fs : Array Field} (h : fn.results = #[.cell p ty,.tmp u]) (tmps : Array Value) (w : World) (g : Nat) (t : TypeId) (cs : Array Value) (v : Value)
    (hp : tmps.getD p undef = .pointer (some ⟨g,0,none⟩)) (hv : tmps.getD u undef = v) (hg : Bk w g t cs)
    (hu : P.underlying ty = some (.struct fs)) (hi : (P.info? ty).map (·.size) = some cs.size) :
    (results fn tmps).run P w = .ok (.tuple #[.agg cs,v]) w := by
  have hp' : tmps[p]?.getD undef = .pointer (some ⟨g,0,none⟩) := by simpa using hp
  have hv' : tmps[u]?.getD undef = v := by simpa using hv
  simp [results,h,hp',hv',asAddr,run_loadVar_row w g t ty cs (0,0) _ hg hu rfl hi]

end Go.Proofs.YtljefjngmembkaaGreatDoor
namespace Go.Proofs.YtljefjngmembkaaGreatDoor
set_option linter.all false
structure Jb.Full (J : Jb) : Prop where
  p : -60 ≤ J.p1 ∧ J.p1 ≤ J.p2 ∧ J.p2 ≤ 60
  t : 0 ≤ J.t1 ∧ J.t1 ≤ J.t2 ∧ J.t2 ≤ 100
  r : 0 ≤ J.r1 ∧ J.r1 ≤ J.r2 ∧ J.r2 ≤ 100
  u : 0 ≤ J.u1 ∧ J.u1 ≤ J.u2 ∧ J.u2 ≤ 12
  d : 0 ≤ J.d1 ∧ J.d1 ≤ J.d2 ∧ J.d2 ≤ 12
  x : 0 ≤ J.x1 ∧ J.x1 ≤ J.x2 ∧ J.x2 ≤ 12
  y : 0 ≤ J.y1 ∧ J.y1 ≤ J.y2 ∧ J.y2 ≤ 12
  le : 0 ≤ J.le ∧ J.le ≤ 100
  wi : 0 ≤ J.wi ∧ J.wi ≤ 60
  me : 0 ≤ J.me ∧ J.me ≤ 6
  len : J.sh.length ≤ 4
  sh : ∀ s ∈ J.sh,-60 ≤ s.1 ∧ s.1 ≤ s.2 ∧ s.2 ≤ 60
theorem rngE_mk {a b lo hi : Int} (h : lo ≤ a ∧ a ≤ b ∧ b ≤ hi) : rngE a b lo hi = 0 := by
  unfold rngE
  rw [if_neg (by omega),if_neg (by omega),if_neg (by omega)]
theorem numE_mk {a lo hi : Int} (h : lo ≤ a ∧ a ≤ hi) : numE a lo hi = 0 := by
  unfold numE
  rw [if_neg (by omega)]
theorem shE_mk : ∀ (l : List R2),(∀ s ∈ l,-60 ≤ s.1 ∧ s.1 ≤ s.2 ∧ s.2 ≤ 60) → shE l = 0
  | [],_ => rfl
  | e :: l,h => by
    unfold shE
    rw [if_pos (rngE_mk (h e List.mem_cons_self))]
    exact shE_mk l fun x hx => h x (List.mem_cons_of_mem _ hx)
theorem check_full {J : Jb} (h : J.check = 0) : J.Full := by
  unfold Jb.check at h
  by_cases h0 : J.head = 0
  · rw [if_pos h0] at h
    by_cases h1 : 4 < J.sh.length
    · rw [if_pos h1] at h; omega
    · rw [if_neg h1] at h
      by_cases h2 : shE J.sh = 0
      · rw [if_pos h2] at h
        have a := firstE_ok _ h0
        have b := firstE_ok _ h
        have s := shE_ok _ h2
        have a1 := rngE_ok (a _ (by simp : rngE J.p1 J.p2 (-60) 60 ∈ _))
        have a2 := rngE_ok (a _ (by simp : rngE J.t1 J.t2 0 100 ∈ _))
        have a3 := rngE_ok (a _ (by simp : rngE J.r1 J.r2 0 100 ∈ _))
        have a4 := rngE_ok (a _ (by simp : rngE J.u1 J.u2 0 12 ∈ _))
        have a5 := rngE_ok (a _ (by simp : rngE J.d1 J.d2 0 12 ∈ _))
        have a6 := rngE_ok (a _ (by simp : rngE J.x1 J.x2 0 12 ∈ _))
        have a7 := rngE_ok (a _ (by simp : rngE J.y1 J.y2 0 12 ∈ _))
        have a8 := numE_ok (a _ (by simp : numE J.le 0 100 ∈ _))
        have b1 := numE_ok (b _ (by simp : numE J.wi 0 60 ∈ _))
        have b2 := numE_ok (b _ (by simp : numE J.me 0 6 ∈ _))
        refine ⟨by omega,by omega,by omega,by omega,by omega,by omega,by omega,a8,b1,b2,by omega,fun q hq => ?_⟩
        have := rngE_ok (s q hq)
        omega
      · rw [if_neg h2] at h; exact absurd h h2
  · rw [if_neg h0] at h; exact absurd h h0
theorem Jb.Full.check {J : Jb} (h : J.Full) : J.check = 0 := by
  unfold Jb.check
  have h0 : J.head = 0 := by
    unfold Jb.head
    rw [rngE_mk h.p,rngE_mk h.t,rngE_mk h.r,rngE_mk h.u,rngE_mk h.d,rngE_mk h.x,rngE_mk h.y,numE_mk h.le]
    rfl
  rw [if_pos h0,if_neg (by have := h.len; omega),if_pos (shE_mk _ h.sh),numE_mk h.wi,numE_mk h.me]
  rfl
end Go.Proofs.YtljefjngmembkaaGreatDoor
