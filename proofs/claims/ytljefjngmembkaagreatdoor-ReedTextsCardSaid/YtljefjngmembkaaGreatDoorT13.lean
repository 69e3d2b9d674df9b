/- Part 13 of the proof: TxB, TxI, TxC, TxJ, TxK, Pot, PotK, TxL, TxM. -/
import Derived.Test.YtljefjngmembkaaGreatDoorProg
import Derived.WalkKit
import Derived.WalkLawsBesides
import Derived.Deep.RegionHeld3
import Derived.Test.YtljefjngmembkaaGreatDoorT10
import Derived.Test.YtljefjngmembkaaGreatDoorT12
import Derived.Test.YtljefjngmembkaaGreatDoorT11
namespace Go.Proofs.YtljefjngmembkaaGreatDoor
set_option linter.all false
open Go.Tx Go.Lib
def tongueW : List UInt8 := [116,111,110,103,117,101]
def fileW : List UInt8 := [102,105,108,101]
def shiftW : List UInt8 := [115,104,105,102,116]
def passW : List UInt8 := [112,97,115,115]
def lineT (ps : List (List UInt8)) : List UInt8 := join ps [32] ++ [10]
def shT (sh : List R2) : List UInt8 := (sh.map fun s => lineT [shiftW,spanT 58 s]).flatten
def textJ (J : Jb) : List UInt8 :=
  lineT [tongueW,spanT 58 (J.p1,J.p2),spanT 58 (J.t1,J.t2),spanT 58 (J.r1,J.r2)] ++
  (lineT [fileW,spanT 58 (J.u1,J.u2),spanT 58 (J.d1,J.d2),spanT 58 (J.x1,J.x2),spanT 58 (J.y1,J.y2),itoa J.le] ++
  (shT J.sh ++ lineT [passW,itoa J.wi,itoa J.me]))
def rdParts : Nat → List (List UInt8) → Option (List R2 × List Int)
  | _,[] => some ([],[])
  | r + 1,p :: ps => match rdS 58 (-999) 999 p with
    | none => none
    | some s => (rdParts r ps).map fun q => (s :: q.1,q.2)
  | 0,p :: ps => match rdN (-999) 999 p with
    | none => none
    | some n => (rdParts 0 ps).map fun q => (q.1,n :: q.2)
def ap (word : List UInt8) (r n : Nat) (ps : List (List UInt8)) : Option (List R2 × List Int) :=
  if ps.length = 1 + r + n ∧ ps.head? = some word then rdParts r ps.tail else none
def bd (r : R2) : Prop := (-999 ≤ r.1 ∧ r.1 ≤ 999) ∧ -999 ≤ r.2 ∧ r.2 ≤ 999
theorem rdParts_some : ∀ (r : Nat) (ps : List (List UInt8)) (ss : List R2) (ns : List Int),rdParts r ps = some (ss,ns) → r ≤ ps.length → ps = ss.map (spanT 58) ++ ns.map itoa ∧ ss.length = r ∧ (∀ s ∈ ss,bd s) ∧ ∀ n ∈ ns,-999 ≤ n ∧ n ≤ 999
  | 0,[],ss,ns,h,_ => by
    rw [rdParts] at h
    cases h
    exact ⟨rfl,rfl,by simp,by simp⟩
  | r + 1,[],ss,ns,h,hl => by simp at hl
  | r + 1,p :: ps,ss,ns,h,hl => by
    rw [rdParts] at h
    cases hp : rdS 58 (-999) 999 p with
    | none => rw [hp] at h; cases h
    | some s =>
      rw [hp] at h
      simp only at h
      obtain ⟨q,hq,e⟩ := Option.map_eq_some_iff.1 h
      obtain ⟨s2,n2⟩ := q
      cases e
      obtain ⟨h1,h2,h3,h4⟩ := rdParts_some r ps s2 n2 hq (by simpa using hl)
      obtain ⟨k1,k2,k3⟩ := rdS_some hp
      refine ⟨by rw [h1,k1]; rfl,by simp [h2],?_,h4⟩
      intro x hx
      rcases List.mem_cons.1 hx with rfl | hx
      · exact ⟨k2,k3⟩
      · exact h3 x hx
  | 0,p :: ps,ss,ns,h,hl => by
    rw [rdParts] at h
    cases hp : rdN (-999) 999 p with
    | none => rw [hp] at h; cases h
    | some n =>
      rw [hp] at h
      simp only at h
      obtain ⟨q,hq,e⟩ := Option.map_eq_some_iff.1 h
      obtain ⟨s2,n2⟩ := q
      cases e
      obtain ⟨h1,h2,h3,h4⟩ := rdParts_some 0 ps s2 n2 hq (Nat.zero_le _)
      obtain rfl : s2 = [] := List.length_eq_zero_iff.1 h2
      obtain ⟨k1,k2⟩ := rdN_some hp
      refine ⟨by rw [h1,k1]; rfl,rfl,by simp,?_⟩
      intro x hx
      rcases List.mem_cons.1 hx with rfl | hx
      · exact k2
      · exact h4 x hx
theorem ap_some {word : List UInt8} {r n : Nat} {ps : List (List UInt8)} {ss : List R2} {ns : List Int} (h : ap word r n ps = some (ss,ns)) : ps = word :: (ss.map (spanT 58) ++ ns.map itoa) ∧ ss.length = r ∧ ns.length = n ∧ (∀ s ∈ ss,bd s) ∧ ∀ m ∈ ns,-999 ≤ m ∧ m ≤ 999 := by
  unfold ap at h
  split at h
  · rename_i hq
    obtain ⟨hl,hh⟩ := hq
    cases ps with
    | nil => cases hh
    | cons p ps =>
      simp only [List.head?_cons,Option.some.injEq] at hh
      subst hh
      simp only [List.length_cons,List.tail_cons] at hl h
      obtain ⟨h1,h2,h3,h4⟩ := rdParts_some r ps ss ns h (by omega)
      refine ⟨by rw [← h1],h2,?_,h3,h4⟩
      rw [h1,List.length_append,List.length_map,List.length_map] at hl
      omega
  · cases h
def ps2 : Nat → Jb → List UInt8 → Nat → Jb × Nat
  | 0,J,_,line => (J,line)
  | fuel + 1,J,text,line =>
    let q := cut text [10]
    let parts := split q.1 [32]
    if parts.head? = some shiftW then
      if q.2.2 then match ap shiftW 1 0 parts with
        | some (s :: _,_) => ps2 fuel { J with sh := J.sh ++ [s] } q.2.1 (line + 1)
        | _ => (J,line)
      else (J,line)
    else if q.2.2 then match ap passW 0 2 parts with
      | some (_,a :: b :: _) => if q.2.1 = [] then ({ J with wi := a,me := b },0) else ({ J with wi := a,me := b },line + 1)
      | _ => (J,line)
    else (J,line)
def ps1 (J : Jb) (text : List UInt8) : Jb × Nat :=
  let q := cut text [10]
  if q.2.2 then match ap fileW 4 1 (split q.1 [32]) with
    | some (u :: d :: x :: y :: _,le :: _) => ps2 (q.2.1.length + 1) { J with u1 := u.1,u2 := u.2,d1 := d.1,d2 := d.2,x1 := x.1,x2 := x.2,y1 := y.1,y2 := y.2,le := le } q.2.1 3
    | _ => (J,2)
  else (J,2)
def zeroJb : Jb := ⟨0,0,0,0,0,0,0,0,0,0,0,0,0,0,0,0,0,[]⟩
def parseJ (text : List UInt8) : Jb × Nat :=
  let q := cut text [10]
  if q.2.2 then match ap tongueW 3 0 (split q.1 [32]) with
    | some (p :: t :: r :: _,_) => ps1 { zeroJb with p1 := p.1,p2 := p.2,t1 := t.1,t2 := t.2,r1 := r.1,r2 := r.2 } q.2.1
    | _ => (zeroJb,1)
  else (zeroJb,1)
end Go.Proofs.YtljefjngmembkaaGreatDoor
namespace Go.Proofs.YtljefjngmembkaaGreatDoor
set_option linter.all false
open Go.RowKit
set_option maxHeartbeats 4000000 in
set_option maxRecDepth 100000 in
theorem write_let {J : Jb} {a : Option Addr} {n c : Nat} {w : World} {P1 P2 P3 P4 P5 P6 P7 P8 P9 P10 L1 L2 L3 : ByteArray} {acc : Nat → ByteArray} (hj : J.check = 0) (hn : n = J.sh.length) (hm : n ≤ 100) (h : Rg w w.heap.size a J.sh) (hl : LibW w)
    (H1 : Hid (SpOK J.p1 J.p2 P1)) (H2 : Hid (SpOK J.t1 J.t2 P2)) (H3 : Hid (SpOK J.r1 J.r2 P3)) (HL1 : Hid (LnOK [⟨#[116,111,110,103,117,101]⟩,P1,P2,P3] L1))
    (H4 : Hid (SpOK J.u1 J.u2 P4)) (H5 : Hid (SpOK J.d1 J.d2 P5)) (H6 : Hid (SpOK J.x1 J.x2 P6)) (H7 : Hid (SpOK J.y1 J.y2 P7)) (H8 : Hid (ItOK J.le P8)) (HL2 : Hid (LnOK [⟨#[102,105,108,101]⟩,P4,P5,P6,P7,P8] L2))
    (H9 : Hid (ItOK J.wi P9)) (H10 : Hid (ItOK J.me P10)) (HL3 : Hid (LnOK [⟨#[112,97,115,115]⟩,P9,P10] L3))
    (HZ : Hid (L1.size ≤ 1000000 ∧ L2.size ≤ 1000000 ∧ L3.size ≤ 1000000 ∧ ∀ i,(acc i).size ≤ 1000000)) (H0 : Hid (L1 ++ L2 = acc 0))
    (HA : Hid (∀ i,i < n → ∃ r T U,J.sh[i]? = some r ∧ SpOK r.1 r.2 T ∧ LnOK [⟨#[115,104,105,102,116]⟩,T] U ∧ U.size ≤ 1000000 ∧ acc i ++ U = acc (i + 1))) :
    Calls Tryz.prog 8 #[.agg (jobC J (.slice a n c))] w fun e w' => e = .returned (.tuple #[.string (acc n ++ L3),.int .i64 0]) ∧ Below w.heap.size w w' := by
  have Hn := hidMk hn
  have Hh := hidMk h
  have HLW := hidMk hl
  have HJ := hidMk hj
  have b0 := Bk.new w 30 (jobC J (.slice a n c))
  have hW : Below w.heap.size w (w.alloc (.cells (jobC J (.slice a n c)) 30)) := (Below.refl _ _).alloc (Nat.le_refl _) _
  clear hn h hl hj
  go_enter Tryz.func8,Tryz.ntmps8
  go_wp2_with (refine wpList_load_row rfl 30 _ rfl w.heap.size rfl _ (jobC J (.slice a n c)) _ _ b0 Tryz.underlying30 rfl szJob ?_)
  refine (check_any J a n c _ Hn.out (by omega) (Hh.out.up hW)).mono ?_
  rintro e w1 ⟨he,hb⟩
  rw [HJ.out] at he
  subst he
  have HS := hidMk (⟨hW.trans (hb.mono hW.size),b0.below hb b0.lt⟩ : WS w w1 w.heap.size (jobC J (.slice a n c)))
  clear b0 hW hb
  dsimp only
  go_wp2_with fail
  refine wr4 HLW.out HS.out H1 H2 H3 HL1 ?_
  intro w2 h2
  intros
  have HS2 := hidMk h2
  clear h2
  go_wp2_with fail
  refine wr5 HLW.out HS2.out H4 H5 H6 H7 H8 HL2 ⟨HZ.out.1,HZ.out.2.1⟩ ?_
  intro w3 h3
  intros
  rw [H0.out]
  have HS3 := hidMk h3
  have d15 := h3.2.at_ 15 (.slice a n c) rfl
  clear h3 HS HS2
  have HN0 : Hid (((0 : Nat) : Int) = 0) := hidMk rfl
  go_wp2_with fail
  clear d15
  refine wp_loop (fun a_ wr => ∃ (u2 u3 u4 u6 u7 u8 u9 A0 A1 A2 A3 A4 A5 A6 A7 A8 A9 Aa Ab Ac Ad Ae Af Ag Ah Ai Aj Ak Al Am An Ao Ap Aq Ar As At Au Av Aw Ax Ay Az C0 C1 C2 C3 C4 C5 C9 Ca Cb Cc Cd Ce Cf Cg Ch Ci Cj Ck Cl Cm Cn Co Cp Cq Cr Cs : Value) (i : Nat),i ≤ n ∧ Hid (WS w wr w.heap.size (jobC J (.slice a n c))) ∧ a_ = ⟨#[(.agg (jobC J (.slice a n c))),(.pointer (some ⟨w.heap.size,0,none⟩)),u2,u3,u4,(.string (acc i)),u6,u7,u8,u9,A0,A1,A2,A3,A4,A5,A6,A7,A8,A9,Aa,Ab,Ac,Ad,Ae,Af,Ag,Ah,Ai,Aj,Ak,Al,Am,An,Ao,Ap,Aq,Ar,As,At,Au,Av,Aw,Ax,Ay,Az,C0,C1,C2,C3,C4,C5,(.slice a n c),(.int .i64 n),(.int .i64 i),C9,Ca,Cb,Cc,Cd,Ce,Cf,Cg,Ch,Ci,Cj,Ck,Cl,Cm,Cn,Co,Cp,Cq,Cr,Cs],[]⟩) (fun a_ _ => n - (intOf (a_.tmps.getD 54 undef)).toNat) ?_ ?_
  · exact ⟨_,_,_,_,_,_,_,_,_,_,_,_,_,_,_,_,_,_,_,_,_,_,_,_,_,_,_,_,_,_,_,_,_,_,_,_,_,_,_,_,_,_,_,_,_,_,_,_,_,_,_,_,_,_,_,_,_,_,_,_,_,_,_,_,_,_,_,_,_,0,Nat.zero_le _,HS3,rfl⟩
  · intro a_ wr hx
    obtain ⟨u2,hx⟩ := hx
    obtain ⟨u3,hx⟩ := hx
    obtain ⟨u4,hx⟩ := hx
    obtain ⟨u6,hx⟩ := hx
    obtain ⟨u7,hx⟩ := hx
    obtain ⟨u8,hx⟩ := hx
    obtain ⟨u9,hx⟩ := hx
    obtain ⟨A0,hx⟩ := hx
    obtain ⟨A1,hx⟩ := hx
    obtain ⟨A2,hx⟩ := hx
    obtain ⟨A3,hx⟩ := hx
    obtain ⟨A4,hx⟩ := hx
    obtain ⟨A5,hx⟩ := hx
    obtain ⟨A6,hx⟩ := hx
    obtain ⟨A7,hx⟩ := hx
    obtain ⟨A8,hx⟩ := hx
    obtain ⟨A9,hx⟩ := hx
    obtain ⟨Aa,hx⟩ := hx
    obtain ⟨Ab,hx⟩ := hx
    obtain ⟨Ac,hx⟩ := hx
    obtain ⟨Ad,hx⟩ := hx
    obtain ⟨Ae,hx⟩ := hx
    obtain ⟨Af,hx⟩ := hx
    obtain ⟨Ag,hx⟩ := hx
    obtain ⟨Ah,hx⟩ := hx
    obtain ⟨Ai,hx⟩ := hx
    obtain ⟨Aj,hx⟩ := hx
    obtain ⟨Ak,hx⟩ := hx
    obtain ⟨Al,hx⟩ := hx
    obtain ⟨Am,hx⟩ := hx
    obtain ⟨An,hx⟩ := hx
    obtain ⟨Ao,hx⟩ := hx
    obtain ⟨Ap,hx⟩ := hx
    obtain ⟨Aq,hx⟩ := hx
    obtain ⟨Ar,hx⟩ := hx
    obtain ⟨As,hx⟩ := hx
    obtain ⟨At,hx⟩ := hx
    obtain ⟨Au,hx⟩ := hx
    obtain ⟨Av,hx⟩ := hx
    obtain ⟨Aw,hx⟩ := hx
    obtain ⟨Ax,hx⟩ := hx
    obtain ⟨Ay,hx⟩ := hx
    obtain ⟨Az,hx⟩ := hx
    obtain ⟨C0,hx⟩ := hx
    obtain ⟨C1,hx⟩ := hx
    obtain ⟨C2,hx⟩ := hx
    obtain ⟨C3,hx⟩ := hx
    obtain ⟨C4,hx⟩ := hx
    obtain ⟨C5,hx⟩ := hx
    obtain ⟨C9,hx⟩ := hx
    obtain ⟨Ca,hx⟩ := hx
    obtain ⟨Cb,hx⟩ := hx
    obtain ⟨Cc,hx⟩ := hx
    obtain ⟨Cd,hx⟩ := hx
    obtain ⟨Ce,hx⟩ := hx
    obtain ⟨Cf,hx⟩ := hx
    obtain ⟨Cg,hx⟩ := hx
    obtain ⟨Ch,hx⟩ := hx
    obtain ⟨Ci,hx⟩ := hx
    obtain ⟨Cj,hx⟩ := hx
    obtain ⟨Ck,hx⟩ := hx
    obtain ⟨Cl,hx⟩ := hx
    obtain ⟨Cm,hx⟩ := hx
    obtain ⟨Cn,hx⟩ := hx
    obtain ⟨Co,hx⟩ := hx
    obtain ⟨Cp,hx⟩ := hx
    obtain ⟨Cq,hx⟩ := hx
    obtain ⟨Cr,hx⟩ := hx
    obtain ⟨Cs,hx⟩ := hx
    obtain ⟨i,hi,HSr,ha⟩ := hx
    subst ha
    clear HS3
    have wy : IntKind.i64.wrap ((i : Int) + 1) = (i : Int) + 1 := IntWalk.i64_in _ (by omega)
    have HWY := hidMk wy
    clear wy
    by_cases hlt : i < n
    · obtain ⟨r,T,U,hr,hT,hU,hUz,hA⟩ := HA.out i hlt
      obtain ⟨g,o,rfl,hg,c0,c1⟩ := Hh.out i r hr
      have HT := hidMk hT
      have HU := hidMk hU
      have HAI := hidMk hA
      have c0' := (HSr.out.1.cell (p := ⟨g,o + i * 2,none⟩) hg).trans c0
      have c1' := (HSr.out.1.cell (p := ⟨g,o + i * 2 + 1,none⟩) hg).trans c1
      have hi1 : (i : Int) < (n : Int) := by omega
      obtain ⟨r1,r2⟩ := r
      simp only at c0' c1'
      clear hT hU hA c0 c1 hr
      go_wp2_with fail
      refine (HT.out _ (HLW.out.keep (HSr.out.next (below0 wr _)).1 HLW.out.room)).mono ?_
      rintro e w5 ⟨rfl,hb5⟩
      have HS5 := hidMk ((HSr.out.next (below0 wr _)).next hb5)
      clear hb5 c0' c1'
      dsimp only
      go_wp2_with fail
      refine (HU.out _ _ (Bk.new w5 9 _)).mono ?_
      rintro e w6 ⟨rfl,hb6⟩
      have HS6 := hidMk ((HS5.out.next (below0 w5 _)).next hb6)
      have hz1 := HZ.out.2.2.2 i
      have hz2 : ¬ 9223372036854775807 < (acc i).size + U.size := by omega
      have wy := HWY.out
      clear hb6 HS5 HSr hz1
      dsimp only
      go_wp2_with fail
      have e1 : ((i + 1 : Nat) : Int) = (i : Int) + 1 := by push_cast; rfl
      exact ⟨⟨_,_,_,_,_,_,_,_,_,_,_,_,_,_,_,_,_,_,_,_,_,_,_,_,_,_,_,_,_,_,_,_,_,_,_,_,_,_,_,_,_,_,_,_,_,_,_,_,_,_,_,_,_,_,_,_,_,_,_,_,_,_,_,_,_,_,_,_,_,i + 1,by omega,HS6,by rw [e1,HAI.out]⟩,by simp [intOf]; omega⟩
    · obtain rfl : i = n := by omega
      have hlt' : ¬ (i : Int) < (i : Int) := by omega
      go_wp2_with fail
      refine wr11 HLW.out HSr.out H9 H10 HL3 ⟨HZ.out.2.2.2 _,HZ.out.2.2.1⟩ ?_
      intro w4 h4
      intros
      have HS4 := hidMk h4
      clear h4
      go_wp2_with fail
      refine bodyPost_ret (v := .tuple #[.string (acc i ++ L3),.int .i64 0]) (by simp [results,Tryz.results8,go_sem]) rfl ⟨rfl,HS4.out.1⟩
end Go.Proofs.YtljefjngmembkaaGreatDoor
namespace Go.Proofs.YtljefjngmembkaaGreatDoor
set_option linter.all false
open Go.Tx Go.Lib
theorem shT_cons (s : R2) (sh : List R2) : shT (s :: sh) = lineT [shiftW,spanT 58 s] ++ shT sh := by
  unfold shT
  rw [List.map_cons,List.flatten_cons]
end Go.Proofs.YtljefjngmembkaaGreatDoor
namespace Go.Proofs.YtljefjngmembkaaGreatDoor
set_option linter.all false
open Go.RowKit
def bt (l : List UInt8) : ByteArray := ⟨l.toArray⟩
theorem bt_cat (x y : List UInt8) : bt x ++ bt y = bt (x ++ y) := by
  apply Go.WideShapes.bytes_inj
  simp [bt]
theorem bt_list (x : List UInt8) : (bt x).data.toList = x := by simp [bt]
theorem bt_size (x : List UInt8) : (bt x).size = x.length := by
  show (bt x).data.size = _
  simp [bt]
theorem dec_len : ∀ (k u : Nat),u < 10 ^ (k + 1) → (Lib.decDigits u).length ≤ k + 1
  | 0,u,h => by
    rw [Lib.decDigits,dif_pos (by simpa using h)]
    simp
  | k + 1,u,h => by
    rw [Lib.decDigits]
    split
    · simp
    · rw [List.length_append]
      have := dec_len k (u / 10) (by rw [Nat.pow_succ] at h; omega)
      simp only [List.length_singleton]
      omega
theorem itoa_len {n : Int} (h : In64 n) : (Lib.itoa n).length ≤ 8 := by
  unfold In64 at h
  unfold Lib.itoa
  split
  · rw [List.length_cons]
    have := dec_len 6 n.natAbs (by show n.natAbs < 10000000; omega)
    have e : (-n).toNat = n.natAbs := by omega
    first | omega | (simp only [e] at *; omega)
  · have := dec_len 6 n.toNat (by show n.toNat < 10000000; omega)
    omega
theorem spOK {a b : Int} (ha : In64 a) (hb : In64 b) : SpOK a b (bt (Tx.spanT 58 (a,b))) := fun w' hl => by
  have h1 := itoa_len ha
  have h2 := itoa_len hb
  have := span_any a b ha hb (bt (Lib.itoa a)) (bt (Lib.itoa b)) rfl rfl (by rw [bt_size,bt_size]; omega) w' hl
  have e : bt (Lib.itoa a) ++ ⟨#[58]⟩ ++ bt (Lib.itoa b) = bt (Tx.spanT 58 (a,b)) := by
    have e1 : (⟨#[58]⟩ : ByteArray) = bt [58] := rfl
    rw [e1,bt_cat,bt_cat]
    unfold Tx.spanT
    simp
  rw [e] at this
  exact this
theorem itOK {a : Int} (ha : In64 a) : ItOK a (bt (Lib.itoa a)) := fun w' hl => itoa_any a ⟨by have := ha.1; omega,by have := ha.2; omega⟩ _ rfl w' hl
theorem span_len {a b : Int} (ha : In64 a) (hb : In64 b) : (Tx.spanT 58 (a,b)).length ≤ 17 := by
  have h1 := itoa_len ha
  have h2 := itoa_len hb
  unfold Tx.spanT
  rw [List.length_append,List.length_cons]
  simp only
  omega
theorem line_eq (ps : List (List UInt8)) : lineB (ps.map bt) = bt (lineT ps) := by
  unfold lineB lineT
  have e : (ps.map bt).map (·.data.toList) = ps := by
    rw [List.map_map]
    conv => rhs; rw [← List.map_id ps]
    exact List.map_congr_left fun x _ => bt_list x
  rw [e]
  exact bt_cat _ [10]
theorem join_len : ∀ (ps : List (List UInt8)) (m : Nat),(∀ p ∈ ps,p.length ≤ m) → (Lib.join ps [32]).length ≤ ps.length * (m + 1)
  | [],m,_ => by simp [Lib.join]
  | [x],m,h => by
    rw [Lib.join_one]
    have := h x List.mem_cons_self
    simp only [List.length_singleton]
    omega
  | x :: y :: r,m,h => by
    rw [Tx.join_two,List.length_append,List.length_cons]
    have h1 := h x List.mem_cons_self
    have h2 := join_len (y :: r) m fun p hp => h p (List.mem_cons_of_mem _ hp)
    have : (x :: y :: r).length * (m + 1) = (y :: r).length * (m + 1) + (m + 1) := by rw [List.length_cons,Nat.succ_mul]
    omega
theorem line_len (ps : List (List UInt8)) (m : Nat) (h : ∀ p ∈ ps,p.length ≤ m) : (lineT ps).length ≤ ps.length * (m + 1) + 1 := by
  unfold lineT
  rw [List.length_append]
  have := join_len ps m h
  simp only [List.length_singleton]
  omega
theorem lnT (ps : List (List UInt8)) (h1 : ps.length ≤ 10) (h : ∀ p ∈ ps,p.length ≤ 20) : LnOK (ps.map bt) (bt (lineT ps)) := by
  rw [← line_eq]
  refine lnOK _ (by rw [List.length_map]; omega) ?_
  have e : (ps.map bt).map (·.data.toList) = ps := by
    rw [List.map_map]
    conv => rhs; rw [← List.map_id ps]
    exact List.map_congr_left fun x _ => bt_list x
  rw [e]
  have := join_len ps 20 h
  have : ps.length * 21 ≤ 10 * 21 := Nat.mul_le_mul_right _ h1
  omega
theorem Jb.Full.in64 {J : Jb} (h : J.Full) : (In64 J.p1 ∧ In64 J.p2 ∧ In64 J.t1 ∧ In64 J.t2 ∧ In64 J.r1 ∧ In64 J.r2) ∧ (In64 J.u1 ∧ In64 J.u2 ∧ In64 J.d1 ∧ In64 J.d2 ∧ In64 J.x1 ∧ In64 J.x2 ∧ In64 J.y1 ∧ In64 J.y2) ∧ In64 J.le ∧ In64 J.wi ∧ In64 J.me := by
  obtain ⟨p,t,r,u,d,x,y,le,wi,me,len,sh⟩ := h
  unfold In64
  omega
theorem shT_max : ∀ (l : List R2),(∀ s ∈ l,In64 s.1 ∧ In64 s.2) → (shT l).length ≤ l.length * 50
  | [],_ => by simp [shT]
  | s :: l,h => by
    have h1 := shT_max l fun x hx => h x (List.mem_cons_of_mem _ hx)
    have h2 := h s List.mem_cons_self
    have h3 := span_len h2.1 h2.2
    have h4 := line_len [shiftW,Tx.spanT 58 s] 17 (by intro p hp; simp only [List.mem_cons,List.not_mem_nil,or_false] at hp; rcases hp with rfl | rfl; exact (by decide); exact h3)
    have e : shT (s :: l) = lineT [shiftW,Tx.spanT 58 s] ++ shT l := rfl
    rw [e,List.length_append,List.length_cons]
    simp only [List.length_cons,List.length_nil] at h4
    omega
theorem shT_app (l m : List R2) : shT (l ++ m) = shT l ++ shT m := by simp [shT]
def lineA (J : Jb) : List UInt8 := lineT [tongueW,Tx.spanT 58 (J.p1,J.p2),Tx.spanT 58 (J.t1,J.t2),Tx.spanT 58 (J.r1,J.r2)]
def lineF (J : Jb) : List UInt8 := lineT [fileW,Tx.spanT 58 (J.u1,J.u2),Tx.spanT 58 (J.d1,J.d2),Tx.spanT 58 (J.x1,J.x2),Tx.spanT 58 (J.y1,J.y2),Lib.itoa J.le]
def lineP (J : Jb) : List UInt8 := lineT [passW,Lib.itoa J.wi,Lib.itoa J.me]
set_option maxRecDepth 100000 in
theorem write_ok (J : Jb) (a : Option Addr) (n c : Nat) (w : World) (hj : J.check = 0) (hn : n = J.sh.length) (h : Rg w w.heap.size a J.sh) (hl : LibW w) :
    Calls Tryz.prog 8 #[.agg (jobC J (.slice a n c))] w fun e w' => e = .returned (.tuple #[.string (bt (textJ J)),.int .i64 0]) ∧ Below w.heap.size w w' := by
  have hF := check_full hj
  obtain ⟨⟨p1,p2,t1,t2,r1,r2⟩,⟨u1,u2,d1,d2,x1,x2,y1,y2⟩,le,wi,me⟩ := hF.in64
  have hsh : ∀ s ∈ J.sh,In64 s.1 ∧ In64 s.2 := fun s hs => by have := hF.sh s hs; unfold In64; omega
  have b1 : ∀ p ∈ [tongueW,Tx.spanT 58 (J.p1,J.p2),Tx.spanT 58 (J.t1,J.t2),Tx.spanT 58 (J.r1,J.r2)],p.length ≤ 20 := by
    have := span_len p1 p2; have := span_len t1 t2; have := span_len r1 r2
    intro p hp
    simp only [List.mem_cons,List.not_mem_nil,or_false] at hp
    rcases hp with rfl | rfl | rfl | rfl
    · exact (by decide)
    all_goals omega
  have b2 : ∀ p ∈ [fileW,Tx.spanT 58 (J.u1,J.u2),Tx.spanT 58 (J.d1,J.d2),Tx.spanT 58 (J.x1,J.x2),Tx.spanT 58 (J.y1,J.y2),Lib.itoa J.le],p.length ≤ 20 := by
    have := span_len u1 u2; have := span_len d1 d2; have := span_len x1 x2; have := span_len y1 y2; have := itoa_len le
    intro p hp
    simp only [List.mem_cons,List.not_mem_nil,or_false] at hp
    rcases hp with rfl | rfl | rfl | rfl | rfl | rfl
    · exact (by decide)
    all_goals omega
  have b3 : ∀ p ∈ [passW,Lib.itoa J.wi,Lib.itoa J.me],p.length ≤ 20 := by
    have := itoa_len wi; have := itoa_len me
    intro p hp
    simp only [List.mem_cons,List.not_mem_nil,or_false] at hp
    rcases hp with rfl | rfl | rfl
    · exact (by decide)
    all_goals omega
  have c1 : (lineA J).length ≤ 1000 := by have := line_len _ 20 b1; simp only [List.length_cons,List.length_nil] at this; unfold lineA; omega
  have c2 : (lineF J).length ≤ 1000 := by have := line_len _ 20 b2; simp only [List.length_cons,List.length_nil] at this; unfold lineF; omega
  have c3 : (lineP J).length ≤ 1000 := by have := line_len _ 20 b3; simp only [List.length_cons,List.length_nil] at this; unfold lineP; omega
  have c4 : ∀ i,(shT (J.sh.take i)).length ≤ 1000 := fun i => by
    have := shT_max (J.sh.take i) fun s hs => hsh s (List.mem_of_mem_take hs)
    have h2 : (J.sh.take i).length ≤ 4 := by rw [List.length_take]; have := hF.len; omega
    omega
  refine (write_let (acc := fun i => bt (lineA J ++ lineF J ++ shT (J.sh.take i))) (L3 := bt (lineP J)) hj hn (by have := hF.len; omega) h hl (spOK p1 p2) (spOK t1 t2) (spOK r1 r2) (lnT _ (by simp) b1) (spOK u1 u2) (spOK d1 d2) (spOK x1 x2) (spOK y1 y2) (itOK le) (lnT _ (by simp) b2) (itOK wi) (itOK me) (lnT _ (by simp) b3) ⟨?_,?_,?_,?_⟩ ?_ ?_).mono ?_
  · rw [bt_size]; show (lineA J).length ≤ _; omega
  · rw [bt_size]; show (lineF J).length ≤ _; omega
  · rw [bt_size]; omega
  · intro i
    simp only [bt_size,List.length_append]
    have := c4 i
    omega
  · show bt (lineA J) ++ bt (lineF J) = bt _
    rw [bt_cat]
    simp [shT]
  · intro i hi
    rw [hn] at hi
    have hm := List.getElem_mem hi
    have hs := hsh _ hm
    refine ⟨J.sh[i],bt (Tx.spanT 58 J.sh[i]),bt (lineT [shiftW,Tx.spanT 58 J.sh[i]]),List.getElem?_eq_getElem hi,spOK hs.1 hs.2,lnT [shiftW,Tx.spanT 58 J.sh[i]] (by simp) ?_,?_,?_⟩
    · have := span_len hs.1 hs.2
      intro p hp
      simp only [List.mem_cons,List.not_mem_nil,or_false] at hp
      rcases hp with rfl | rfl
      · exact (by decide)
      · exact Nat.le_trans this (by decide)
    · rw [bt_size]
      have h3 := span_len hs.1 hs.2
      have := line_len [shiftW,Tx.spanT 58 J.sh[i]] 20 (by
        intro p hp
        simp only [List.mem_cons,List.not_mem_nil,or_false] at hp
        rcases hp with rfl | rfl
        · exact (by decide)
        · exact Nat.le_trans h3 (by decide))
      simp only [List.length_cons,List.length_nil] at this
      omega
    · show bt _ ++ bt _ = bt _
      have e : shT [J.sh[i]] = lineT [shiftW,Tx.spanT 58 J.sh[i]] := by
        unfold shT
        rw [List.map_cons,List.map_nil,List.flatten_cons,List.flatten_nil,List.append_nil]
      rw [bt_cat,List.take_succ_eq_append_getElem hi,shT_app,e]
      simp only [List.append_assoc]
  · rintro e w' ⟨rfl,hb⟩
    refine ⟨?_,hb⟩
    rw [bt_cat,hn,List.take_length]
    have e : lineA J ++ lineF J ++ shT J.sh ++ lineP J = textJ J := by
      unfold textJ lineA lineF lineP
      simp only [List.append_assoc]
    rw [e]
end Go.Proofs.YtljefjngmembkaaGreatDoor
namespace Go.Proofs.YtljefjngmembkaaGreatDoor
set_option linter.all false
open Go.RowKit
set_option maxHeartbeats 1000000 in
set_option maxRecDepth 100000 in
theorem write_bad (J : Jb) (a : Option Addr) (n c : Nat) (w : World) (hj : ¬ J.check = 0) (hn : n = J.sh.length) (hm : n ≤ 9223372036854775807) (h : Rg w w.heap.size a J.sh) :
    Calls Tryz.prog 8 #[.agg (jobC J (.slice a n c))] w fun e w' => e = .returned (.tuple #[.string (bt []),.int .i64 J.check]) ∧ Below w.heap.size w w' := by
  have Hn := hidMk hn
  have Hh := hidMk h
  have b0 := Bk.new w 30 (jobC J (.slice a n c))
  have hW : Below w.heap.size w (w.alloc (.cells (jobC J (.slice a n c)) 30)) := (Below.refl _ _).alloc (Nat.le_refl _) _
  have hcb : (J.check != 0) = true := by simpa using hj
  clear hn h
  go_enter Tryz.func8,Tryz.ntmps8
  go_wp2_with (refine wpList_load_row rfl 30 _ rfl w.heap.size rfl _ (jobC J (.slice a n c)) _ _ b0 Tryz.underlying30 rfl szJob ?_)
  refine (check_any J a n c _ Hn.out hm (Hh.out.up hW)).mono ?_
  rintro e w1 ⟨rfl,hb⟩
  have hB := hW.trans (hb.mono hW.size)
  clear b0 hW hb
  go_wp2_with fail
  refine bodyPost_ret (v := .tuple #[.string (bt []),.int .i64 J.check]) (by simp [results,Tryz.results8,go_sem,bt]) rfl ⟨rfl,hB⟩
def ruleC (word : ByteArray) (rep : Bool) (r n : Int) (f : Value) : List Value := [.string word,.bool rep,.int .i64 r,.int .i64 n,f]
def rulesC : List Value := ruleC (bt tongueW) false 3 0 (.func (.func 77) #[] #[]) ++ (ruleC (bt fileW) false 4 1 (.func (.func 78) #[] #[]) ++ (ruleC (bt shiftW) true 1 0 (.func (.func 79) #[] #[]) ++ ruleC (bt passW) false 0 2 (.func (.func 80) #[] #[])))
set_option maxHeartbeats 1000000 in
set_option maxRecDepth 100000 in
theorem rules_any (w : World) : Calls Tryz.prog 57 #[] w fun e w' => ∃ g,e = .returned (.slice (some ⟨g,0,none⟩) 4 4) ∧ Bk w' g 116 rulesC.toArray ∧ w.heap.size ≤ g ∧ Below w.heap.size w w' := by
  go_enter Tryz.func57,Tryz.ntmps57
  go_wp2_with fail
  refine bodyPost_ret (v := .slice (some ⟨w.heap.size,0,none⟩) 4 4) (by simp [results,Tryz.results57,go_sem]) rfl ⟨w.heap.size,rfl,Bk.new w _ _,Nat.le_refl _,below0 w _⟩
end Go.Proofs.YtljefjngmembkaaGreatDoor
namespace Go.Proofs.YtljefjngmembkaaGreatDoor
set_option linter.all false
open Go.RowKit
def stepS (s : Int) : Int := IntKind.u64.wrap (IntKind.u64.wrap (s * 6364136223846793005) + 1442695040888963407)
def mixA (x c : Int) : Int := IntKind.u64.wrap (bits BinOp.xor IntKind.u64 x (x / 8589934592) * c)
def stepX (s : Int) : Int := bits BinOp.xor IntKind.u64 (mixA (mixA (stepS s) 18397679294719823053) 14181476777654086739) (mixA (mixA (stepS s) 18397679294719823053) 14181476777654086739 / 8589934592)
set_option maxHeartbeats 400000 in
theorem step_any (b : Nat) (s : Int) (w : World) (h : w.cell? ⟨b,0,none⟩ = some (.int .u64 s)) (hf : w.frozen? ⟨b,0,none⟩ = false) :
    Calls Tryz.prog 48 #[.pointer (some ⟨b,0,none⟩)] w fun e w' => e = .returned (.int .u64 (stepX s)) ∧ w' = w.setCell ⟨b,0,none⟩ (.int .u64 (stepS s)) := by
  go_enter Tryz.func48,Tryz.ntmps48
  go_wp2
  go_ret
  exact ⟨rfl,rfl⟩
def uptoF (s m : Int) : Int := if m < 1 then 0 else wrap64 ((stepX s / 2048).tmod (m + 1))
def uptoS (s m : Int) : Int := if m < 1 then s else stepS s
theorem stepX_in (s : Int) : 0 ≤ stepX s ∧ stepX s ≤ 18446744073709551615 := bits_within .xor .u64 _ _
theorem uptoF_in (s m : Int) (h : m ≤ 1000) : 0 ≤ uptoF s m ∧ (uptoF s m ≤ m ∨ uptoF s m = 0) := by
  unfold uptoF
  by_cases h1 : m < 1
  · rw [if_pos h1]; omega
  · rw [if_neg h1]
    have h2 := stepX_in s
    have h3 : 0 ≤ stepX s / 2048 := by omega
    have h4 : (stepX s / 2048).tmod (m + 1) = (stepX s / 2048) % (m + 1) := Int.tmod_eq_emod_of_nonneg h3
    have h5 := Int.emod_nonneg (stepX s / 2048) (show m + 1 ≠ 0 by omega)
    have h6 := Int.emod_lt_of_pos (stepX s / 2048) (show 0 < m + 1 by omega)
    rw [h4,show wrap64 ((stepX s / 2048) % (m + 1)) = (stepX s / 2048) % (m + 1) from IntWalk.wrap64_in _ (by omega)]
    omega
def Put (w w' : World) (b : Nat) (s s' : Int) : Prop := w' = w.setCell ⟨b,0,none⟩ (.int .u64 s') ∨ (w' = w ∧ s' = s)
theorem Put.cell {w w' : World} {b q p : Nat} {s s' : Int} {v : Value} (h : Put w w' b s s') (hbq : b ≠ q) (hv : w.cell? ⟨q,p,none⟩ = some v) : w'.cell? ⟨q,p,none⟩ = some v := by
  rcases h with rfl | ⟨rfl,_⟩
  · exact (World.cell?_setCell_other w _ _ _ (by intro e; cases e; exact hbq rfl)).trans hv
  · exact hv
set_option maxHeartbeats 400000 in
theorem upto_less (b : Nat) (m : Int) (w : World) (hm : m < 1) :
    Calls Tryz.prog 26 #[.pointer (some ⟨b,0,none⟩),.int .i64 m] w fun e w' => e = .returned (.int .i64 0) ∧ w' = w := by
  go_enter Tryz.func26,Tryz.ntmps26
  go_wp2
  go_ret
  exact ⟨rfl,rfl⟩
set_option maxHeartbeats 400000 in
theorem upto_more (b : Nat) (s m : Int) (w : World) (hm : 1 ≤ m ∧ m ≤ 1000) (h : w.cell? ⟨b,0,none⟩ = some (.int .u64 s)) (hf : w.frozen? ⟨b,0,none⟩ = false) :
    Calls Tryz.prog 26 #[.pointer (some ⟨b,0,none⟩),.int .i64 m] w fun e w' => e = .returned (.int .i64 (wrap64 ((stepX s / 2048).tmod (m + 1)))) ∧ w' = w.setCell ⟨b,0,none⟩ (.int .u64 (stepS s)) := by
  obtain ⟨h1,h2⟩ := hm
  have hz : ¬ m < 1 := by omega
  go_enter Tryz.func26,Tryz.ntmps26
  go_wp2_with (go_at_call 48; refine (step_any _ _ _ h hf).mono ?_; rintro e w1 ⟨rfl,rfl⟩)
  go_ret
  exact ⟨rfl,rfl⟩
theorem upto_any (b : Nat) (s m : Int) (w : World) (hm : m ≤ 1000) (h : w.cell? ⟨b,0,none⟩ = some (.int .u64 s)) (hf : w.frozen? ⟨b,0,none⟩ = false) :
    Calls Tryz.prog 26 #[.pointer (some ⟨b,0,none⟩),.int .i64 m] w fun e w' => e = .returned (.int .i64 (uptoF s m)) ∧ Put w w' b s (uptoS s m) := by
  unfold uptoF uptoS
  by_cases h1 : m < 1
  · rw [if_pos h1,if_pos h1]
    exact (upto_less b m w h1).mono fun e w' ⟨he,hw⟩ => ⟨he,.inr ⟨hw,rfl⟩⟩
  · rw [if_neg h1,if_neg h1]
    exact (upto_more b s m w (by omega) h hf).mono fun e w' ⟨he,hw⟩ => ⟨he,.inl hw⟩
def pick3 (x y z u : Int) : Int := if u = 0 then x else if u = 1 then y else z
set_option maxHeartbeats 400000 in
theorem of3_any (b q o : Nat) (s x y z : Int) (w : World) (h : w.cell? ⟨b,0,none⟩ = some (.int .u64 s)) (hf : w.frozen? ⟨b,0,none⟩ = false) (hbq : b ≠ q)
    (h0 : w.cell? ⟨q,o,none⟩ = some (.int .i64 x)) (h1 : w.cell? ⟨q,o + 1,none⟩ = some (.int .i64 y)) (h2 : w.cell? ⟨q,o + 2,none⟩ = some (.int .i64 z)) :
    Calls Tryz.prog 25 #[.pointer (some ⟨b,0,none⟩),.slice (some ⟨q,o,none⟩) 3 3] w fun e w' => e = .returned (.int .i64 (pick3 x y z (uptoF s 2))) ∧ Put w w' b s (uptoS s 2) := by
  have hu := uptoF_in s 2 (by omega)
  have hcase : uptoF s 2 = 0 ∨ uptoF s 2 = 1 ∨ uptoF s 2 = 2 := by omega
  rcases hcase with e0 | e0 | e0
  · have he : pick3 x y z (uptoF s 2) = x := by rw [e0]; rfl
    clear hu
    go_enter Tryz.func25,Tryz.ntmps25
    go_wp2_with (go_at_call 26; refine (upto_any _ _ _ _ (by decide) h hf).mono ?_; rintro e w1 ⟨rfl,hp⟩; have g0 := hp.cell hbq h0; have g1 := hp.cell hbq h1; have g2 := hp.cell hbq h2)
    go_ret
    exact ⟨by rw [he]; rfl,hp⟩
  · have he : pick3 x y z (uptoF s 2) = y := by rw [e0]; rfl
    clear hu
    go_enter Tryz.func25,Tryz.ntmps25
    go_wp2_with (go_at_call 26; refine (upto_any _ _ _ _ (by decide) h hf).mono ?_; rintro e w1 ⟨rfl,hp⟩; have g0 := hp.cell hbq h0; have g1 := hp.cell hbq h1; have g2 := hp.cell hbq h2)
    go_ret
    exact ⟨by rw [he]; rfl,hp⟩
  · have he : pick3 x y z (uptoF s 2) = z := by rw [e0]; rfl
    clear hu
    go_enter Tryz.func25,Tryz.ntmps25
    go_wp2_with (go_at_call 26; refine (upto_any _ _ _ _ (by decide) h hf).mono ?_; rintro e w1 ⟨rfl,hp⟩; have g0 := hp.cell hbq h0; have g1 := hp.cell hbq h1; have g2 := hp.cell hbq h2)
    go_ret
    exact ⟨by rw [he]; rfl,hp⟩
end Go.Proofs.YtljefjngmembkaaGreatDoor
namespace Go.Proofs.YtljefjngmembkaaGreatDoor
set_option linter.all false
open Go.RowKit

def Pt (w : World) (b : Nat) : Prop := ∃ t s,Bk w b t #[.int .u64 s]
structure PB (b B : Nat) (w w' : World) : Prop where
  os : w'.os = w.os
  tape : w'.tape = w.tape
  output : w'.output = w.output
  size : w.heap.size ≤ w'.heap.size
  heap : ∀ k,k < B → k ≠ b → w'.heap[k]? = w.heap[k]?
section
variable {b B B' : Nat} {w w' w'' : World} {t : TypeId} {s : Int} {p : Addr}
theorem Pt.lt (h : Pt w b) : b < w.heap.size := by obtain ⟨t,s,h⟩ := h; exact h.lt
theorem Pt.alloc (h : Pt w b) (o : Obj) : Pt (w.alloc o) b := by obtain ⟨t,s,h⟩ := h; exact ⟨t,s,h.alloc o⟩
theorem Pt.drew (h : Pt w b) : Pt w.drew b := h
theorem Pt.other (h : Pt w b) (hp : b ≠ p.block) (u : Value) : Pt (w.setCell p u) b := by obtain ⟨t,s,h⟩ := h; exact ⟨t,s,h.other hp u⟩
theorem Pt.below (h : Pt w b) (hb : Below B w w') (hg : b < B) : Pt w' b := by obtain ⟨t,s,h⟩ := h; exact ⟨t,s,h.below hb hg⟩
theorem Pt.grown {row : Option Nat} (h : Pt w b) (hb : w.grownBy w' row) (hg : some b ≠ row) : Pt w' b := by obtain ⟨t,s,h⟩ := h; exact ⟨t,s,h.grown hb hg⟩
theorem Pt.rowOther (h : Pt w b) {g : Nat} (hk : b ≠ g) (ds : Array Value) : Pt (w.setRow g ds) b := by obtain ⟨t,s,h⟩ := h; exact ⟨t,s,h.rowOther hk ds⟩
theorem PB.refl (b B : Nat) (w : World) : PB b B w w := ⟨rfl,rfl,rfl,Nat.le_refl _,fun _ _ _ => rfl⟩
theorem PB.trans (h : PB b B w w') (h' : PB b B' w' w'') (hB : B ≤ B') : PB b B w w'' := ⟨h'.os.trans h.os,h'.tape.trans h.tape,h'.output.trans h.output,Nat.le_trans h.size h'.size,fun k hk hb => (h'.heap k (Nat.lt_of_lt_of_le hk hB) hb).trans (h.heap k hk hb)⟩
theorem PB.below (h : PB b B w w') (h' : Below B' w' w'') (hB : B ≤ B') : PB b B w w'' := ⟨h'.os.trans h.os,h'.tape.trans h.tape,h'.output.trans h.output,Nat.le_trans h.size h'.size,fun k hk hb => (h'.block k (Nat.lt_of_lt_of_le hk hB)).trans (h.heap k hk hb)⟩
theorem PB.of (h : Below B w w') : PB b B w w' := ⟨h.os,h.tape,h.output,h.size,fun k hk _ => h.block k hk⟩
theorem PB.toBelow (h : PB b B w w') (hB : B ≤ b) : Below B w w' := ⟨h.os,h.tape,h.output,h.size,fun k hk => h.heap k hk (by omega)⟩
theorem PB.mono (h : PB b B w w') (hB : B' ≤ B) : PB b B' w w' := ⟨h.os,h.tape,h.output,h.size,fun k hk => h.heap k (by omega)⟩
theorem PB.alloc (h : PB b B w w') (hB : B ≤ w'.heap.size) (o : Obj) : PB b B w (w'.alloc o) := h.below ((Below.refl _ _).alloc hB o) (Nat.le_refl _)
theorem PB.setCell (h : PB b B w w') (hp : B ≤ p.block) (u : Value) : PB b B w (w'.setCell p u) := h.below ((Below.refl _ _).setCell hp u) (Nat.le_refl _)
theorem Bk.pb {g : Nat} {cs : Array Value} (h : Bk w g t cs) (hk : PB b B w w') (hg : g < B) (hb : g ≠ b) : Bk w' g t cs := (hk.heap g hg hb).trans h
theorem Pt.cell {i : Nat} {v : Value} (h : Pt w b) (hc : w.cell? ⟨b,i,none⟩ = some v) : ∃ s,v = .int .u64 s := by
  obtain ⟨t,s,h⟩ := h
  rw [cell_of_row w b i _ t (0,0) h] at hc
  cases i with
  | zero => exact ⟨s,by simpa using hc.symm⟩
  | succ i => simp at hc
theorem PB.cell (h : PB b B w w') (hp : p.block < B) (hb : p.block ≠ b) : w'.cell? p = w.cell? p := World.cell?_of_block (h.heap _ hp hb)
theorem Rg.pb {a : Option Addr} {l : List R2} (h : Rg w w.heap.size a l) (hp : Pt w b) (hk : PB b w.heap.size w w') : Rg w' w'.heap.size a l := fun k r hr => by
  obtain ⟨g,off,e,hg,h1,h2⟩ := h k r hr
  have hne : g ≠ b := by
    rintro rfl
    obtain ⟨s,e⟩ := hp.cell h1
    cases e
  have := hk.size
  exact ⟨g,off,e,by omega,(hk.cell hg hne).trans h1,(hk.cell hg hne).trans h2⟩
theorem Is.pb {a : Option Addr} {l : List Int} (h : Is w w.heap.size a l) (hp : Pt w b) (hk : PB b w.heap.size w w') : Is w' w'.heap.size a l := fun k r hr => by
  obtain ⟨g,off,e,hg,h1⟩ := h k r hr
  have hne : g ≠ b := by
    rintro rfl
    obtain ⟨s,e⟩ := hp.cell h1
    cases e
  have := hk.size
  exact ⟨g,off,e,by omega,(hk.cell hg hne).trans h1⟩
theorem Put.pb {s' : Int} (hb : Bk w b t #[.int .u64 s]) (h : Put w w' b s s') : PB b w.heap.size w w' ∧ Pt w' b := by
  rcases h with rfl | ⟨rfl,_⟩
  · exact ⟨⟨rfl,rfl,rfl,by simp,fun k hk hkb => Below.heap_setCell w _ _ k hkb⟩,t,s',hb.put1 _⟩
  · exact ⟨PB.refl _ _ _,t,s,hb⟩
end

def PotEnd (b : Nat) (w : World) (P : Int → Prop) (e : Ending) (w' : World) : Prop := ∃ x,e = .returned (.int .i64 x) ∧ P x ∧ PB b w.heap.size w w' ∧ Pt w' b
theorem uptoP (b : Nat) (m : Int) (w : World) (hp : Pt w b) (hm : 0 ≤ m ∧ m ≤ 1000) : Calls Tryz.prog 26 #[.pointer (some ⟨b,0,none⟩),.int .i64 m] w (PotEnd b w fun x => 0 ≤ x ∧ x ≤ m) := by
  obtain ⟨t,s,hb⟩ := hp
  refine (upto_any b s m w hm.2 (hb.at_ 0 _ rfl) (hb.free 0)).mono ?_
  rintro e w' ⟨rfl,hput⟩
  have h1 := uptoF_in s m hm.2
  have h2 := hput.pb hb
  exact ⟨_,rfl,by omega,h2.1,h2.2⟩
set_option maxHeartbeats 400000 in
theorem withinP (b : Nat) (lo hi : Int) (w : World) (hp : Pt w b) (h : -400 ≤ lo ∧ lo ≤ hi ∧ hi ≤ 400) : Calls Tryz.prog 24 #[.pointer (some ⟨b,0,none⟩),.int .i64 lo,.int .i64 hi] w (PotEnd b w fun x => lo ≤ x ∧ x ≤ hi) := by
  obtain ⟨h1,h2,h3⟩ := h
  go_enter Tryz.func24,Tryz.ntmps24
  go_wp2_with (go_at_call 26; refine (uptoP _ _ _ hp (by omega)).mono ?_; rintro e w1 ⟨x,rfl,hx,hk,hp1⟩; obtain ⟨hx1,hx2⟩ := hx)
  go_ret
  exact ⟨_,rfl,by omega,hk,hp1⟩
theorem of3P (b q : Nat) (x y z : Int) (t : TypeId) (w : World) (hp : Pt w b) (hbq : b ≠ q) (hq : Bk w q t #[.int .i64 x,.int .i64 y,.int .i64 z]) : Calls Tryz.prog 25 #[.pointer (some ⟨b,0,none⟩),.slice (some ⟨q,0,none⟩) 3 3] w (PotEnd b w fun v => v = x ∨ v = y ∨ v = z) := by
  obtain ⟨tb,s,hb⟩ := hp
  refine (of3_any b q 0 s x y z w (hb.at_ 0 _ rfl) (hb.free 0) hbq (hq.at_ 0 _ rfl) (hq.at_ 1 _ rfl) (hq.at_ 2 _ rfl)).mono ?_
  rintro e w' ⟨rfl,hput⟩
  have h2 := hput.pb hb
  refine ⟨_,rfl,?_,h2.1,h2.2⟩
  unfold pick3
  split
  · exact .inl rfl
  · split
    · exact .inr (.inl rfl)
    · exact .inr (.inr rfl)
end Go.Proofs.YtljefjngmembkaaGreatDoor
namespace Go.Proofs.YtljefjngmembkaaGreatDoor
set_option linter.all false
open Go.RowKit
theorem PB.put1 {w w' : World} {g B : Nat} (h : PB g B w w') (i : Nat) (u : Value) : PB g B w (w'.setCell ⟨g,i,none⟩ u) :=
  ⟨h.os,h.tape,h.output,by have := h.size; simpa [World.setCell] using this,fun k hk hb => (Below.heap_setCell w' ⟨g,i,none⟩ u k (fun e => hb e)).trans (h.heap k hk hb)⟩
set_option maxHeartbeats 1000000 in
set_option maxRecDepth 100000 in
theorem take4_any (x y : Int) (g h o nc : Nat) (ra : Option Addr) (rn rc : Nat) (cs : Array Value) (hcs : cs.size = 18) (w : World) (hb : Bk w g 30 cs) (hg : h ≠ g) (hx : w.cell? ⟨h,o,none⟩ = some (.int .i64 x)) (hy : w.cell? ⟨h,o + 1,none⟩ = some (.int .i64 y)) :
    Calls Tryz.prog 80 #[.pointer (some ⟨g,0,none⟩),.slice ra rn rc,.slice (some ⟨h,o,none⟩) 2 nc] w fun e w' => e = .returned (.tuple #[]) ∧ Bk w' g 30 ((cs.setIfInBounds 16 (.int .i64 x)).setIfInBounds 17 (.int .i64 y)) ∧ PB g w.heap.size w w' := by
  have hgb : g < w.heap.size := hb.lt
  have hS : (fun w' => w'.cell? ⟨h,o,none⟩ = some (.int .i64 x) ∧ w'.cell? ⟨h,o + 1,none⟩ = some (.int .i64 y)) w.drew := ⟨hx,hy⟩
  have hP : PB g w.heap.size w w.drew := PB.of (Below.refl _ _).drew
  clear hx hy
  go_enter Tryz.func80,Tryz.ntmps80
  go_wp2_with fail
  refine region_via (R := fun a_ e_ a' w' => e_ = .normal ∧ ∃ (v6 v7 v8 v9 v10 v11 v12 v13 v14 v15 v16 v17 : Value),a' = ((((((((((((a_.put (some 6) v6).put (some 7) v7).put (some 8) v8).put (some 9) v9).put (some 10) v10).put (some 11) v11).put (some 12) v12).put (some 13) v13).put (some 14) v14).put (some 15) v15).put (some 16) v16).put (some 17) v17) ∧ Bk w' g 30 ((cs.setIfInBounds 16 (.int .i64 x)).setIfInBounds 17 (.int .i64 y)) ∧ PB g w.heap.size w w') ?_ ?_
  rotate_left
  · rintro e_ a' w' ⟨rfl,v6,v7,v8,v9,v10,v11,v12,v13,v14,v15,v16,v17,rfl,h1,h2⟩
    simp only [Act.put,aT,aZ,aS]
    have HB' := hidMk h1
    have HP' := hidMk h2
    clear h1 h2 hb hS hP
    go_wp2_with fail
    refine bodyPost_end (v := .tuple #[]) (by simp [results,Tryz.results80,go_sem]) rfl ⟨rfl,HB'.out,HP'.out⟩
  refine wp_region_held_drew (S := (fun w' => w'.cell? ⟨h,o,none⟩ = some (.int .i64 x) ∧ w'.cell? ⟨h,o + 1,none⟩ = some (.int .i64 y))) (by kernel_rfl) hS (fun hS0 => ?_)
  clear hS0
  have hB : Bk w.drew g 30 cs := hb
  clear hb
  generalize w.drew = wd at hS hB hP ⊢
  refine wT (i := 0) (v := ?_) rfl (.inl ⟨by rfl,?_⟩) ?_
  rotate_left
  · (intro w' hSw; (try dsimp only at hSw); go_simp <;> with_reducible rfl)
  (try simp only [Act.put,aT,aZ,aS])
  refine wT (i := 1) (v := ?_) rfl (.inl ⟨by rfl,?_⟩) ?_
  rotate_left
  · (intro w' hSw; (try dsimp only at hSw); go_simp <;> with_reducible rfl)
  (try simp only [Act.put,aT,aZ,aS])
  refine wT (i := 2) (v := ?_) rfl (.inl ⟨by rfl,?_⟩) ?_
  rotate_left
  · (intro w' hSw; (try dsimp only at hSw); go_simp <;> with_reducible rfl)
  (try simp only [Act.put,aT,aZ,aS])
  refine wT (i := 3) (v := ?_) rfl (.inl ⟨by rfl,?_⟩) ?_
  rotate_left
  · (intro w' hSw; (try dsimp only at hSw); go_simp <;> with_reducible rfl)
  (try simp only [Act.put,aT,aZ,aS])
  refine wT (i := 4) (v := ?_) rfl (.inl ⟨by rfl,?_⟩) ?_
  rotate_left
  · (intro w' hSw; (try dsimp only at hSw); have q0 := hSw.1; go_simp <;> with_reducible rfl)
  (try simp only [Act.put,aT,aZ,aS])
  refine wT (i := 5) (v := ?_) rfl (.inl ⟨by rfl,?_⟩) ?_
  rotate_left
  · (intro w' hSw; (try dsimp only at hSw); go_simp <;> with_reducible rfl)
  (try simp only [Act.put,aT,aZ,aS])
  refine wT (i := 6) (v := ?_) rfl (.inl ⟨by rfl,?_⟩) ?_
  rotate_left
  · (intro w' hSw; (try dsimp only at hSw); go_simp <;> with_reducible rfl)
  (try simp only [Act.put,aT,aZ,aS])
  refine wT (i := 7) (v := ?_) rfl (.inl ⟨by rfl,?_⟩) ?_
  rotate_left
  · (intro w' hSw; (try dsimp only at hSw); have q1 := hSw.2; go_simp <;> with_reducible rfl)
  (try simp only [Act.put,aT,aZ,aS])
  refine wT (i := 8) (v := ?_) rfl (.inl ⟨by rfl,?_⟩) ?_
  rotate_left
  · (intro w' hSw; (try dsimp only at hSw); go_simp <;> with_reducible rfl)
  (try simp only [Act.put,aT,aZ,aS])
  refine wT (i := 9) (v := ?_) rfl (.inl ⟨by rfl,?_⟩) ?_
  rotate_left
  · (intro w' hSw; (try dsimp only at hSw); go_simp <;> with_reducible rfl)
  (try simp only [Act.put,aT,aZ,aS])
  refine wpAnyH_ready (rs := [10]) (by kernel_rfl) (by simp) ?_
  refine AllReadyH.cons rfl (fun K hK => ?_) ?_
  · have fz := hB.free 16
    have oz := hB.at_ 16 _ (Array.getElem?_eq_getElem (by simp [hcs]))
    go_simp
    have hS_ : (fun w' => w'.cell? ⟨h,o,none⟩ = some (.int .i64 x) ∧ w'.cell? ⟨h,o + 1,none⟩ = some (.int .i64 y)) (wd.setCell ⟨g,16,none⟩ (.int .i64 x)) := ⟨(cell_other wd g 16 h o _ (Ne.symm hg)).trans hS.1,(cell_other wd g 16 h (o + 1) _ (Ne.symm hg)).trans hS.2⟩
    have hB_ := hB.put 16 (.int .i64 x)
    have hP_ := hP.put1 16 (.int .i64 x)
    refine hK.out _ _ hS_ (fun _ => ?_)
    clear fz oz hS hB hP
    have hS := hS_
    have hB := hB_
    have hP := hP_
    clear hS_ hB_ hP_
    generalize wd.setCell _ _ = wd at hS hB hP ⊢
    clear hK K
    (try simp only [Act.put,aT,aZ,aS])
    refine wT (i := 11) (v := ?_) rfl (.inl ⟨by rfl,?_⟩) ?_
    rotate_left
    · (intro w' hSw; (try dsimp only at hSw); go_simp <;> with_reducible rfl)
    (try simp only [Act.put,aT,aZ,aS])
    refine wT (i := 12) (v := ?_) rfl (.inl ⟨by rfl,?_⟩) ?_
    rotate_left
    · (intro w' hSw; (try dsimp only at hSw); go_simp <;> with_reducible rfl)
    (try simp only [Act.put,aT,aZ,aS])
    refine wpAnyH_ready (rs := [13]) (by kernel_rfl) (by simp) ?_
    refine AllReadyH.cons rfl (fun K hK => ?_) ?_
    · have fz := hB.free 17
      have oz := hB.at_ 17 _ (Array.getElem?_eq_getElem (by simp [hcs]))
      go_simp
      have hS_ : (fun w' => w'.cell? ⟨h,o,none⟩ = some (.int .i64 x) ∧ w'.cell? ⟨h,o + 1,none⟩ = some (.int .i64 y)) (wd.setCell ⟨g,17,none⟩ (.int .i64 y)) := ⟨(cell_other wd g 17 h o _ (Ne.symm hg)).trans hS.1,(cell_other wd g 17 h (o + 1) _ (Ne.symm hg)).trans hS.2⟩
      have hB_ := hB.put 17 (.int .i64 y)
      have hP_ := hP.put1 17 (.int .i64 y)
      refine hK.out _ _ hS_ (fun _ => ?_)
      clear fz oz hS hB hP
      have hS := hS_
      have hB := hB_
      have hP := hP_
      clear hS_ hB_ hP_
      generalize wd.setCell _ _ = wd at hS hB hP ⊢
      clear hK K
      (try simp only [Act.put,aT,aZ,aS])
      refine wpAnyH_done (by kernel_rfl) ?_ _
      exact ⟨rfl,_,_,_,_,_,_,_,_,_,_,_,_,rfl,hB,hP⟩
    exact AllReadyH.nil
  exact AllReadyH.nil
end Go.Proofs.YtljefjngmembkaaGreatDoor
namespace Go.Proofs.YtljefjngmembkaaGreatDoor
set_option linter.all false
open Go.RowKit
set_option maxHeartbeats 4000000 in
set_option maxRecDepth 100000 in
theorem take1_any (a0 b0 a1 b1 a2 b2 : Int) (g h o rc : Nat) (na : Option Addr) (nn nc : Nat) (cs : Array Value) (hcs : cs.size = 18) (w : World) (hb : Bk w g 30 cs) (hg : h ≠ g) (hx : w.cell? ⟨h,o,none⟩ = some (.int .i64 a0) ∧ w.cell? ⟨h,o + 1,none⟩ = some (.int .i64 b0) ∧ w.cell? ⟨h,o + 2,none⟩ = some (.int .i64 a1) ∧ w.cell? ⟨h,o + 3,none⟩ = some (.int .i64 b1) ∧ w.cell? ⟨h,o + 4,none⟩ = some (.int .i64 a2) ∧ w.cell? ⟨h,o + 5,none⟩ = some (.int .i64 b2)) :
    Calls Tryz.prog 77 #[.pointer (some ⟨g,0,none⟩),.slice (some ⟨h,o,none⟩) 3 rc,.slice na nn nc] w fun e w' => e = .returned (.tuple #[]) ∧ Bk w' g 30 ((((((cs.setIfInBounds 0 (.int .i64 a0)).setIfInBounds 1 (.int .i64 b0)).setIfInBounds 2 (.int .i64 a1)).setIfInBounds 3 (.int .i64 b1)).setIfInBounds 4 (.int .i64 a2)).setIfInBounds 5 (.int .i64 b2)) ∧ PB g w.heap.size w w' := by
  have hgb : g < w.heap.size := hb.lt
  have hS : (fun w' => w'.cell? ⟨h,o,none⟩ = some (.int .i64 a0) ∧ w'.cell? ⟨h,o + 1,none⟩ = some (.int .i64 b0) ∧ w'.cell? ⟨h,o + 2,none⟩ = some (.int .i64 a1) ∧ w'.cell? ⟨h,o + 3,none⟩ = some (.int .i64 b1) ∧ w'.cell? ⟨h,o + 4,none⟩ = some (.int .i64 a2) ∧ w'.cell? ⟨h,o + 5,none⟩ = some (.int .i64 b2)) w.drew := hx
  have hP : PB g w.heap.size w w.drew := PB.of (Below.refl _ _).drew
  clear hx
  go_enter Tryz.func77,Tryz.ntmps77
  go_wp2_with fail
  refine region_via (R := fun a_ e_ a' w' => e_ = .normal ∧ ∃ (v6 v7 v8 v9 v10 v11 v12 v13 v14 v15 v16 v17 v18 v19 v20 v21 v22 v23 v24 v25 v26 : Value),a' = (((((((((((((((((((((a_.put (some 6) v6).put (some 7) v7).put (some 8) v8).put (some 9) v9).put (some 10) v10).put (some 11) v11).put (some 12) v12).put (some 13) v13).put (some 14) v14).put (some 15) v15).put (some 16) v16).put (some 17) v17).put (some 18) v18).put (some 19) v19).put (some 20) v20).put (some 21) v21).put (some 22) v22).put (some 23) v23).put (some 24) v24).put (some 25) v25).put (some 26) v26) ∧ Bk w' g 30 ((((((cs.setIfInBounds 0 (.int .i64 a0)).setIfInBounds 1 (.int .i64 b0)).setIfInBounds 2 (.int .i64 a1)).setIfInBounds 3 (.int .i64 b1)).setIfInBounds 4 (.int .i64 a2)).setIfInBounds 5 (.int .i64 b2)) ∧ PB g w.heap.size w w' ∧ w'.cell? ⟨h,o,none⟩ = some (.int .i64 a0) ∧ w'.cell? ⟨h,o + 1,none⟩ = some (.int .i64 b0) ∧ w'.cell? ⟨h,o + 2,none⟩ = some (.int .i64 a1) ∧ w'.cell? ⟨h,o + 3,none⟩ = some (.int .i64 b1) ∧ w'.cell? ⟨h,o + 4,none⟩ = some (.int .i64 a2) ∧ w'.cell? ⟨h,o + 5,none⟩ = some (.int .i64 b2)) ?_ ?_
  rotate_left
  · rintro e_ a' w' ⟨rfl,v6,v7,v8,v9,v10,v11,v12,v13,v14,v15,v16,v17,v18,v19,v20,v21,v22,v23,v24,v25,v26,rfl,h1,h2,h3⟩
    simp only [Act.put,aT,aZ,aS]
    have HB' := hidMk h1
    have HP' := hidMk h2
    clear h1 h2 h3 hb hS hP
    go_wp2_with fail
    refine bodyPost_end (v := .tuple #[]) (by simp [results,Tryz.results77,go_sem]) rfl ⟨rfl,HB'.out,HP'.out⟩
  refine wp_region_held_drew (S := (fun w' => w'.cell? ⟨h,o,none⟩ = some (.int .i64 a0) ∧ w'.cell? ⟨h,o + 1,none⟩ = some (.int .i64 b0) ∧ w'.cell? ⟨h,o + 2,none⟩ = some (.int .i64 a1) ∧ w'.cell? ⟨h,o + 3,none⟩ = some (.int .i64 b1) ∧ w'.cell? ⟨h,o + 4,none⟩ = some (.int .i64 a2) ∧ w'.cell? ⟨h,o + 5,none⟩ = some (.int .i64 b2))) (by kernel_rfl) hS (fun hS0 => ?_)
  clear hS0
  have hB : Bk w.drew g 30 cs := hb
  clear hb
  generalize w.drew = wd at hS hB hP ⊢
  refine wT (i := 0) (v := ?_) rfl (.inl ⟨by rfl,?_⟩) ?_
  rotate_left
  · (intro w' hSw; (try dsimp only at hSw); go_simp <;> with_reducible rfl)
  (try simp only [Act.put,aT,aZ,aS])
  refine wT (i := 1) (v := ?_) rfl (.inl ⟨by rfl,?_⟩) ?_
  rotate_left
  · (intro w' hSw; (try dsimp only at hSw); go_simp <;> with_reducible rfl)
  (try simp only [Act.put,aT,aZ,aS])
  refine wT (i := 2) (v := ?_) rfl (.inl ⟨by rfl,?_⟩) ?_
  rotate_left
  · (intro w' hSw; (try dsimp only at hSw); go_simp <;> with_reducible rfl)
  (try simp only [Act.put,aT,aZ,aS])
  refine wT (i := 3) (v := ?_) rfl (.inl ⟨by rfl,?_⟩) ?_
  rotate_left
  · (intro w' hSw; (try dsimp only at hSw); go_simp <;> with_reducible rfl)
  (try simp only [Act.put,aT,aZ,aS])
  refine wT (i := 4) (v := ?_) rfl (.inl ⟨by rfl,?_⟩) ?_
  rotate_left
  · (intro w' hSw; (try dsimp only at hSw); go_simp <;> with_reducible rfl)
  (try simp only [Act.put,aT,aZ,aS])
  refine wT (i := 5) (v := ?_) rfl (.inl ⟨by rfl,?_⟩) ?_
  rotate_left
  · (intro w' hSw; (try dsimp only at hSw); (have q0 := hSw.1; have q1 := hSw.2.1); go_simp <;> with_reducible rfl)
  (try simp only [Act.put,aT,aZ,aS])
  refine wT (i := 6) (v := ?_) rfl (.inl ⟨by rfl,?_⟩) ?_
  rotate_left
  · (intro w' hSw; (try dsimp only at hSw); go_simp <;> with_reducible rfl)
  (try simp only [Act.put,aT,aZ,aS])
  refine wT (i := 7) (v := ?_) rfl (.inl ⟨by rfl,?_⟩) ?_
  rotate_left
  · (intro w' hSw; (try dsimp only at hSw); go_simp <;> with_reducible rfl)
  (try simp only [Act.put,aT,aZ,aS])
  refine wT (i := 8) (v := ?_) rfl (.inl ⟨by rfl,?_⟩) ?_
  rotate_left
  · (intro w' hSw; (try dsimp only at hSw); (have q0 := hSw.2.2.1; have q1 := hSw.2.2.2.1); go_simp <;> with_reducible rfl)
  (try simp only [Act.put,aT,aZ,aS])
  refine wT (i := 9) (v := ?_) rfl (.inl ⟨by rfl,?_⟩) ?_
  rotate_left
  · (intro w' hSw; (try dsimp only at hSw); go_simp <;> with_reducible rfl)
  (try simp only [Act.put,aT,aZ,aS])
  refine wT (i := 10) (v := ?_) rfl (.inl ⟨by rfl,?_⟩) ?_
  rotate_left
  · (intro w' hSw; (try dsimp only at hSw); go_simp <;> with_reducible rfl)
  (try simp only [Act.put,aT,aZ,aS])
  refine wT (i := 11) (v := ?_) rfl (.inl ⟨by rfl,?_⟩) ?_
  rotate_left
  · (intro w' hSw; (try dsimp only at hSw); (have q0 := hSw.2.2.2.2.1; have q1 := hSw.2.2.2.2.2); go_simp <;> with_reducible rfl)
  (try simp only [Act.put,aT,aZ,aS])
  refine wT (i := 12) (v := ?_) rfl (.inl ⟨by rfl,?_⟩) ?_
  rotate_left
  · (intro w' hSw; (try dsimp only at hSw); go_simp <;> with_reducible rfl)
  (try simp only [Act.put,aT,aZ,aS])
  refine wT (i := 13) (v := ?_) rfl (.inl ⟨by rfl,?_⟩) ?_
  rotate_left
  · (intro w' hSw; (try dsimp only at hSw); go_simp <;> with_reducible rfl)
  (try simp only [Act.put,aT,aZ,aS])
  refine wT (i := 14) (v := ?_) rfl (.inl ⟨by rfl,?_⟩) ?_
  rotate_left
  · (intro w' hSw; (try dsimp only at hSw); go_simp <;> with_reducible rfl)
  (try simp only [Act.put,aT,aZ,aS])
  refine wpAnyH_ready (rs := [15]) (by kernel_rfl) (by simp) ?_
  refine AllReadyH.cons rfl (fun K hK => ?_) ?_
  · have f0 := hB.free 0
    have f1 := hB.free 1
    have z0 := hB.at_ 0 _ (Array.getElem?_eq_getElem (by simp [hcs]))
    have z1 := hB.at_ 1 _ (Array.getElem?_eq_getElem (by simp [hcs]))
    go_simp
    have hS_ : (fun w' => w'.cell? ⟨h,o,none⟩ = some (.int .i64 a0) ∧ w'.cell? ⟨h,o + 1,none⟩ = some (.int .i64 b0) ∧ w'.cell? ⟨h,o + 2,none⟩ = some (.int .i64 a1) ∧ w'.cell? ⟨h,o + 3,none⟩ = some (.int .i64 b1) ∧ w'.cell? ⟨h,o + 4,none⟩ = some (.int .i64 a2) ∧ w'.cell? ⟨h,o + 5,none⟩ = some (.int .i64 b2)) ((wd.setCell ⟨g,0,none⟩ (.int .i64 a0)).setCell ⟨g,1,none⟩ (.int .i64 b0)) := ⟨((cell_other _ g 1 h o _ (Ne.symm hg)).trans (cell_other wd g 0 h o _ (Ne.symm hg))).trans hS.1,((cell_other _ g 1 h (o + 1) _ (Ne.symm hg)).trans (cell_other wd g 0 h (o + 1) _ (Ne.symm hg))).trans hS.2.1,((cell_other _ g 1 h (o + 2) _ (Ne.symm hg)).trans (cell_other wd g 0 h (o + 2) _ (Ne.symm hg))).trans hS.2.2.1,((cell_other _ g 1 h (o + 3) _ (Ne.symm hg)).trans (cell_other wd g 0 h (o + 3) _ (Ne.symm hg))).trans hS.2.2.2.1,((cell_other _ g 1 h (o + 4) _ (Ne.symm hg)).trans (cell_other wd g 0 h (o + 4) _ (Ne.symm hg))).trans hS.2.2.2.2.1,((cell_other _ g 1 h (o + 5) _ (Ne.symm hg)).trans (cell_other wd g 0 h (o + 5) _ (Ne.symm hg))).trans hS.2.2.2.2.2⟩
    have hB_ := (hB.put 0 (.int .i64 a0)).put 1 (.int .i64 b0)
    have hP_ := (hP.put1 0 (.int .i64 a0)).put1 1 (.int .i64 b0)
    refine hK.out _ _ hS_ (fun _ => ?_)
    clear f0 f1 z0 z1 hS hB hP
    have hS := hS_
    have hB := hB_
    have hP := hP_
    clear hS_ hB_ hP_
    generalize (wd.setCell _ _).setCell _ _ = wd at hS hB hP ⊢
    clear hK K
    (try simp only [Act.put,aT,aZ,aS])
    refine wT (i := 16) (v := ?_) rfl (.inl ⟨by rfl,?_⟩) ?_
    rotate_left
    · (intro w' hSw; (try dsimp only at hSw); go_simp <;> with_reducible rfl)
    (try simp only [Act.put,aT,aZ,aS])
    refine wT (i := 17) (v := ?_) rfl (.inl ⟨by rfl,?_⟩) ?_
    rotate_left
    · (intro w' hSw; (try dsimp only at hSw); go_simp <;> with_reducible rfl)
    (try simp only [Act.put,aT,aZ,aS])
    refine wT (i := 18) (v := ?_) rfl (.inl ⟨by rfl,?_⟩) ?_
    rotate_left
    · (intro w' hSw; (try dsimp only at hSw); go_simp <;> with_reducible rfl)
    (try simp only [Act.put,aT,aZ,aS])
    refine wpAnyH_ready (rs := [19]) (by kernel_rfl) (by simp) ?_
    refine AllReadyH.cons rfl (fun K hK => ?_) ?_
    · have f0 := hB.free 2
      have f1 := hB.free 3
      have z0 := hB.at_ 2 _ (Array.getElem?_eq_getElem (by simp [hcs]))
      have z1 := hB.at_ 3 _ (Array.getElem?_eq_getElem (by simp [hcs]))
      go_simp
      have hS_ : (fun w' => w'.cell? ⟨h,o,none⟩ = some (.int .i64 a0) ∧ w'.cell? ⟨h,o + 1,none⟩ = some (.int .i64 b0) ∧ w'.cell? ⟨h,o + 2,none⟩ = some (.int .i64 a1) ∧ w'.cell? ⟨h,o + 3,none⟩ = some (.int .i64 b1) ∧ w'.cell? ⟨h,o + 4,none⟩ = some (.int .i64 a2) ∧ w'.cell? ⟨h,o + 5,none⟩ = some (.int .i64 b2)) ((wd.setCell ⟨g,2,none⟩ (.int .i64 a1)).setCell ⟨g,3,none⟩ (.int .i64 b1)) := ⟨((cell_other _ g 3 h o _ (Ne.symm hg)).trans (cell_other wd g 2 h o _ (Ne.symm hg))).trans hS.1,((cell_other _ g 3 h (o + 1) _ (Ne.symm hg)).trans (cell_other wd g 2 h (o + 1) _ (Ne.symm hg))).trans hS.2.1,((cell_other _ g 3 h (o + 2) _ (Ne.symm hg)).trans (cell_other wd g 2 h (o + 2) _ (Ne.symm hg))).trans hS.2.2.1,((cell_other _ g 3 h (o + 3) _ (Ne.symm hg)).trans (cell_other wd g 2 h (o + 3) _ (Ne.symm hg))).trans hS.2.2.2.1,((cell_other _ g 3 h (o + 4) _ (Ne.symm hg)).trans (cell_other wd g 2 h (o + 4) _ (Ne.symm hg))).trans hS.2.2.2.2.1,((cell_other _ g 3 h (o + 5) _ (Ne.symm hg)).trans (cell_other wd g 2 h (o + 5) _ (Ne.symm hg))).trans hS.2.2.2.2.2⟩
      have hB_ := (hB.put 2 (.int .i64 a1)).put 3 (.int .i64 b1)
      have hP_ := (hP.put1 2 (.int .i64 a1)).put1 3 (.int .i64 b1)
      refine hK.out _ _ hS_ (fun _ => ?_)
      clear f0 f1 z0 z1 hS hB hP
      have hS := hS_
      have hB := hB_
      have hP := hP_
      clear hS_ hB_ hP_
      generalize (wd.setCell _ _).setCell _ _ = wd at hS hB hP ⊢
      clear hK K
      (try simp only [Act.put,aT,aZ,aS])
      refine wT (i := 20) (v := ?_) rfl (.inl ⟨by rfl,?_⟩) ?_
      rotate_left
      · (intro w' hSw; (try dsimp only at hSw); go_simp <;> with_reducible rfl)
      (try simp only [Act.put,aT,aZ,aS])
      refine wT (i := 21) (v := ?_) rfl (.inl ⟨by rfl,?_⟩) ?_
      rotate_left
      · (intro w' hSw; (try dsimp only at hSw); go_simp <;> with_reducible rfl)
      (try simp only [Act.put,aT,aZ,aS])
      refine wT (i := 22) (v := ?_) rfl (.inl ⟨by rfl,?_⟩) ?_
      rotate_left
      · (intro w' hSw; (try dsimp only at hSw); go_simp <;> with_reducible rfl)
      (try simp only [Act.put,aT,aZ,aS])
      refine wpAnyH_ready (rs := [23]) (by kernel_rfl) (by simp) ?_
      refine AllReadyH.cons rfl (fun K hK => ?_) ?_
      · have f0 := hB.free 4
        have f1 := hB.free 5
        have z0 := hB.at_ 4 _ (Array.getElem?_eq_getElem (by simp [hcs]))
        have z1 := hB.at_ 5 _ (Array.getElem?_eq_getElem (by simp [hcs]))
        go_simp
        have hS_ : (fun w' => w'.cell? ⟨h,o,none⟩ = some (.int .i64 a0) ∧ w'.cell? ⟨h,o + 1,none⟩ = some (.int .i64 b0) ∧ w'.cell? ⟨h,o + 2,none⟩ = some (.int .i64 a1) ∧ w'.cell? ⟨h,o + 3,none⟩ = some (.int .i64 b1) ∧ w'.cell? ⟨h,o + 4,none⟩ = some (.int .i64 a2) ∧ w'.cell? ⟨h,o + 5,none⟩ = some (.int .i64 b2)) ((wd.setCell ⟨g,4,none⟩ (.int .i64 a2)).setCell ⟨g,5,none⟩ (.int .i64 b2)) := ⟨((cell_other _ g 5 h o _ (Ne.symm hg)).trans (cell_other wd g 4 h o _ (Ne.symm hg))).trans hS.1,((cell_other _ g 5 h (o + 1) _ (Ne.symm hg)).trans (cell_other wd g 4 h (o + 1) _ (Ne.symm hg))).trans hS.2.1,((cell_other _ g 5 h (o + 2) _ (Ne.symm hg)).trans (cell_other wd g 4 h (o + 2) _ (Ne.symm hg))).trans hS.2.2.1,((cell_other _ g 5 h (o + 3) _ (Ne.symm hg)).trans (cell_other wd g 4 h (o + 3) _ (Ne.symm hg))).trans hS.2.2.2.1,((cell_other _ g 5 h (o + 4) _ (Ne.symm hg)).trans (cell_other wd g 4 h (o + 4) _ (Ne.symm hg))).trans hS.2.2.2.2.1,((cell_other _ g 5 h (o + 5) _ (Ne.symm hg)).trans (cell_other wd g 4 h (o + 5) _ (Ne.symm hg))).trans hS.2.2.2.2.2⟩
        have hB_ := (hB.put 4 (.int .i64 a2)).put 5 (.int .i64 b2)
        have hP_ := (hP.put1 4 (.int .i64 a2)).put1 5 (.int .i64 b2)
        refine hK.out _ _ hS_ (fun _ => ?_)
        clear f0 f1 z0 z1 hS hB hP
        have hS := hS_
        have hB := hB_
        have hP := hP_
        clear hS_ hB_ hP_
        generalize (wd.setCell _ _).setCell _ _ = wd at hS hB hP ⊢
        clear hK K
        (try simp only [Act.put,aT,aZ,aS])
        refine wpAnyH_done (by kernel_rfl) ?_ _
        exact ⟨rfl,_,_,_,_,_,_,_,_,_,_,_,_,_,_,_,_,_,_,_,_,_,rfl,hB,hP,hS⟩
      exact AllReadyH.nil
    exact AllReadyH.nil
  exact AllReadyH.nil
end Go.Proofs.YtljefjngmembkaaGreatDoor
