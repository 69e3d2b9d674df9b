/- Part 25 of the proof: RtH. -/
import Derived.Maps.AppendAt
import Derived.Test.YtljefjngmembkaaGreatDoorT24
namespace Go.Proofs.YtljefjngmembkaaGreatDoor
set_option linter.all false
open Go.RowKit Go.Lib
structure NW (w0 : World) (B1 q : Nat) (l : List ByteArray) (w : World) : Prop where
  below : Below w0.heap.size w0 w
  row : ∀ k x,l[k]? = some x → w.cell? ⟨q,k,none⟩ = some (.string x)
  lt : q < w.heap.size
  b1 : w0.heap.size ≤ B1 ∧ B1 ≤ w.heap.size
theorem NW.next {w0 w w' : World} {B1 q : Nat} {l : List ByteArray} (h : NW w0 B1 q l w) (hb : Below w.heap.size w w') : NW w0 B1 q l w' :=
  ⟨h.below.trans (hb.mono h.below.size),fun k x hx => (hb.cell (p := ⟨q,k,none⟩) h.lt).trans (h.row k x hx),Nat.lt_of_lt_of_le h.lt hb.size,h.b1.1,Nat.le_trans h.b1.2 hb.size⟩
theorem NW.grown {w0 w w' : World} {B1 q : Nat} {l : List ByteArray} {ob : Option Nat} (h : NW w0 B1 q l w) (hg : w.grownBy w' ob) (ho : ∀ g,ob = some g → B1 ≤ g) (hq : ∀ g,ob = some g → q ≠ g) : NW w0 B1 q l w' :=
  ⟨h.below.grown hg h.below.size (fun g e => Nat.le_trans h.b1.1 (ho g e)),fun k x hx => (World.cell?_of_block (hg.block q h.lt (fun e => hq q e.symm rfl))).trans (h.row k x hx),Nat.lt_of_lt_of_le h.lt hg.size,h.b1.1,Nat.le_trans h.b1.2 hg.size⟩
def NUO (X W : ByteArray) (r n m q cp : Nat) (l : List ByteArray) (w0 : World) (B1 : Nat) (a_ : Act) (wr : World) : Prop := ∃ (u4 u5 u6 u7 u8 u9 A3 A4 A5 A6 A7 A8 A9 Aa Ab Ac Ad Ae Af Ag Ah Ai Aj Ak Al Am An Ao Ap Aq Ar As At Au Av Aw Ax Ay Az C0 C1 C2 C3 C4 C5 C6 C7 C8 C9 Ca Cb Cc Cd Ce Cf Cg Ch Ci Cj Ck Cl Cm Cn Co Cp Cq Cr Cs Ct Cu : Value) (i : Nat) (xs : List Int) (v : Value),(1 ≤ i ∧ i ≤ m + 1) ∧ Hid (FarF r (bytes l).tail (i - 1) xs) ∧ Hid (xs.length ≤ 2 * i) ∧ Hid (NW w0 B1 q l wr) ∧ Hid (wr.ownsRow B1 3 1 v xs.length (xs.map (Value.int .i64))) ∧ a_ = ⟨#[(.string X),(.string W),(.int .i64 r),(.int .i64 n),u4,u5,u6,u7,u8,u9,(.slice (some ⟨q,0,none⟩) (m + 1) cp),v,(.int .i64 i),A3,A4,A5,A6,A7,A8,A9,Aa,Ab,Ac,Ad,Ae,Af,Ag,Ah,Ai,Aj,Ak,Al,Am,An,Ao,Ap,Aq,Ar,As,At,Au,Av,Aw,Ax,Ay,Az,C0,C1,C2,C3,C4,C5,C6,C7,C8,C9,Ca,Cb,Cc,Cd,Ce,Cf,Cg,Ch,Ci,Cj,Ck,Cl,Cm,Cn,Co,Cp,Cq,Cr,Cs,Ct,Cu],[]⟩
def NUI (X W : ByteArray) (r n m q cp : Nat) (l : List ByteArray) (w0 : World) (B1 q2 m2 cp2 i : Nat) (pl : List ByteArray) (xs : List Int) (a_ : Act) (wr : World) : Prop := ∃ (u4 u5 u6 u7 u8 u9 A5 A6 A7 A8 A9 Aa Ab Ac Ad Ae Af Ag Ah Ai Aj Ak Al Am An Ao Ap Aq Ar As At Au Av Aw Ax Ay Az C0 C1 C2 C3 C4 C5 C6 C7 C8 C9 Ca Cb Cc Cd Ce Cf Cg Ch Ci Cj Ck Cl Cm Cn Co Cp Cq Cr Cs Ct Cu : Value) (k : Nat) (ys : List Int) (v : Value),k ≤ m2 + 1 ∧ Hid (numsR (bytes pl) = (numsR ((bytes pl).drop k)).map fun z => ys ++ z) ∧ Hid (ys.length = k) ∧ Hid (∀ g,v.ownBlock = some g → q2 ≠ g) ∧ Hid (NW w0 B1 q l wr) ∧ Hid (NW w0 B1 q2 pl wr) ∧ Hid (wr.ownsRow B1 3 1 v (xs ++ ys).length ((xs ++ ys).map (Value.int .i64))) ∧ a_ = ⟨#[(.string X),(.string W),(.int .i64 r),(.int .i64 n),u4,u5,u6,u7,u8,u9,(.slice (some ⟨q,0,none⟩) (m + 1) cp),v,(.int .i64 i),(.slice (some ⟨q2,0,none⟩) (m2 + 1) cp2),(.int .i64 k),A5,A6,A7,A8,A9,Aa,Ab,Ac,Ad,Ae,Af,Ag,Ah,Ai,Aj,Ak,Al,Am,An,Ao,Ap,Aq,Ar,As,At,Au,Av,Aw,Ax,Ay,Az,C0,C1,C2,C3,C4,C5,C6,C7,C8,C9,Ca,Cb,Cc,Cd,Ce,Cf,Cg,Ch,Ci,Cj,Ck,Cl,Cm,Cn,Co,Cp,Cq,Cr,Cs,Ct,Cu],[]⟩
theorem NUQ.no {r0 : Option (List Int)} {w0 w' : World} (h : r0 = none) (hb : Below w0.heap.size w0 w') : NUQ r0 w0 (.returned (.tuple #[.slice none 0 0,.bool false])) w' := ⟨hb,.inl ⟨h,rfl⟩⟩
theorem apF_len {word : List UInt8} {r n : Nat} {l : List ByteArray} (h : l.length ≠ 1 + r + n) : (ap word r n (bytes l)).map fl = none := by rw [ap_len h]; rfl
theorem apF_word {word x0 : ByteArray} {r n : Nat} {l : List ByteArray} (h0 : l[0]? = some x0) (h : (!(x0.toList == word.toList)) = true) : (ap word.data.toList r n (bytes l)).map fl = none := by rw [ap_word h0 h]; rfl
set_option maxHeartbeats 4000000 in
set_option maxRecDepth 1000000 in
theorem numbers_any (X W : ByteArray) (r n : Nat) (hX : X.size ≤ 400) (hr : r ≤ 10 ∧ n ≤ 10) (w0 : World) :
    Calls Tryz.prog 37 #[.string X,.string W,.int .i64 r,.int .i64 n] w0 (NUQ ((ap W.data.toList r n (split X.data.toList [32])).map fl) w0) := by
  obtain ⟨tj,tj1,tj2,tj3,tj4⟩ := info_parts infoNum
  have Hj := hidMk tj1
  have Hjz := hidMk tj2
  have Hjs := hidMk tj3
  have Hjb := hidMk tj4
  clear tj1 tj2 tj3 tj4
  have w1 : IntKind.i64.wrap ((1 : Int) + (r : Int)) = (1 : Int) + (r : Int) := IntWalk.i64_in _ (by omega)
  have w2 : IntKind.i64.wrap ((1 : Int) + (r : Int) + (n : Int)) = (1 : Int) + (r : Int) + (n : Int) := IntWalk.i64_in _ (by omega)
  have HW12 := hidMk (And.intro w1 w2)
  clear w1 w2
  go_enter Tryz.func37,Tryz.ntmps37
  go_wp2_with fail
  refine (rsplit_any X 32 (by omega) w0).mono ?_
  rintro e w1 ⟨l,m,q,cp,hm,hbl,hz,hll,hcp,rfl,hss,hq,hb⟩
  have HM := hidMk hm
  have HBL := hidMk hbl
  have HZ := hidMk hz
  have HNW : Hid (NW w0 w1.heap.size q l w1) := hidMk ⟨hb,fun k x hx => by have := hss.2 k x hx; rwa [Nat.zero_add] at this,hss.1,hb.size,Nat.le_refl _⟩
  obtain ⟨x0,hx0⟩ : ∃ x,l[0]? = some x := ⟨l[0]'(by omega),List.getElem?_eq_getElem _⟩
  have HX0 := hidMk hx0
  have c0 := HNW.out.row 0 x0 hx0
  have HQL := hidMk (show q < w1.heap.size from hss.1)
  clear hm hbl hz hss hb hx0
  by_cases hw : (!(x0.toList == W.toList)) = true
  · have HN := hidMk (show (ap W.data.toList r n (split X.data.toList [32])).map fl = none by rw [← HBL.out]; exact apF_word HX0.out hw)
    go_wp2_with fail
    refine bodyPost_ret (v := .tuple #[.slice none 0 0,.bool false]) (by simp [results,Tryz.results37,go_sem]) rfl ?_
    exact NUQ.no HN.out HNW.out.below
  have hwf : (!(x0.toList == W.toList)) = false := by simpa using hw
  have HWF := hidMk hwf
  clear hw
  by_cases hl : l.length = 1 + r + n
  · have hm2 : m = r + n := by have := HM.out; omega
    have hl' : (((m + 1 : Nat) : Int) != (1 : Int) + (r : Int) + (n : Int)) = false := by
      have : ((m + 1 : Nat) : Int) = (1 : Int) + (r : Int) + (n : Int) := by omega
      rw [this]
      simp
    have HAP := hidMk (show ap W.data.toList r n (split X.data.toList [32]) = rdParts r (bytes l).tail by rw [← HBL.out]; exact ap_same hl HX0.out hwf)
    have HMR := hidMk hm2
    have w1' := HW12.out.1
    have w2' := HW12.out.2
    clear hl hm2
    go_wp2_with fail
    have hB1 := HNW.out.b1.2
    refine wp_loop (NUO X W r n m q cp l w0 w1.heap.size) (fun a_ _ => m + 2 - (RowKit.intOf (a_.tmps.getD 12 undef)).toNat) ?_ ?_
    · unfold NUO
      exact ⟨_,_,_,_,_,_,_,_,_,_,_,_,_,_,_,_,_,_,_,_,_,_,_,_,_,_,_,_,_,_,_,_,_,_,_,_,_,_,_,_,_,_,_,_,_,_,_,_,_,_,_,_,_,_,_,_,_,_,_,_,_,_,_,_,_,_,_,_,_,_,1,[],_,⟨Nat.le_refl _,by omega⟩,hidMk (FarF.begin _ _),hidMk (by simp),HNW,hidMk ⟨rfl,.inl ⟨rfl,rfl⟩⟩,rfl⟩
    · intro a_ wr hx
      unfold NUO at hx
      obtain ⟨u4,hx⟩ := hx
      obtain ⟨u5,hx⟩ := hx
      obtain ⟨u6,hx⟩ := hx
      obtain ⟨u7,hx⟩ := hx
      obtain ⟨u8,hx⟩ := hx
      obtain ⟨u9,hx⟩ := hx
      obtain ⟨A3,hx⟩ := hx
      obtain ⟨A4,hx⟩ := hx
      obtain ⟨A5,hx⟩ := hx
      obtain ⟨A6,hx⟩ := hx
      obtain ⟨A7,hx⟩ := hx
      obtain ⟨A8,hx⟩ := hx
      obtain ⟨A9,hx⟩ := hx
      obtain ⟨Aa,hx⟩ := hx
      obtain ⟨Ab,hx⟩ := hx
      obtain ⟨Ac,hx⟩ := hx
      obtain ⟨Ad,hx⟩ := hx
      obtain ⟨Ae,hx⟩ := hx
      obtain ⟨Af,hx⟩ := hx
      obtain ⟨Ag,hx⟩ := hx
      obtain ⟨Ah,hx⟩ := hx
      obtain ⟨Ai,hx⟩ := hx
      obtain ⟨Aj,hx⟩ := hx
      obtain ⟨Ak,hx⟩ := hx
      obtain ⟨Al,hx⟩ := hx
      obtain ⟨Am,hx⟩ := hx
      obtain ⟨An,hx⟩ := hx
      obtain ⟨Ao,hx⟩ := hx
      obtain ⟨Ap,hx⟩ := hx
      obtain ⟨Aq,hx⟩ := hx
      obtain ⟨Ar,hx⟩ := hx
      obtain ⟨As,hx⟩ := hx
      obtain ⟨At,hx⟩ := hx
      obtain ⟨Au,hx⟩ := hx
      obtain ⟨Av,hx⟩ := hx
      obtain ⟨Aw,hx⟩ := hx
      obtain ⟨Ax,hx⟩ := hx
      obtain ⟨Ay,hx⟩ := hx
      obtain ⟨Az,hx⟩ := hx
      obtain ⟨C0,hx⟩ := hx
      obtain ⟨C1,hx⟩ := hx
      obtain ⟨C2,hx⟩ := hx
      obtain ⟨C3,hx⟩ := hx
      obtain ⟨C4,hx⟩ := hx
      obtain ⟨C5,hx⟩ := hx
      obtain ⟨C6,hx⟩ := hx
      obtain ⟨C7,hx⟩ := hx
      obtain ⟨C8,hx⟩ := hx
      obtain ⟨C9,hx⟩ := hx
      obtain ⟨Ca,hx⟩ := hx
      obtain ⟨Cb,hx⟩ := hx
      obtain ⟨Cc,hx⟩ := hx
      obtain ⟨Cd,hx⟩ := hx
      obtain ⟨Ce,hx⟩ := hx
      obtain ⟨Cf,hx⟩ := hx
      obtain ⟨Cg,hx⟩ := hx
      obtain ⟨Ch,hx⟩ := hx
      obtain ⟨Ci,hx⟩ := hx
      obtain ⟨Cj,hx⟩ := hx
      obtain ⟨Ck,hx⟩ := hx
      obtain ⟨Cl,hx⟩ := hx
      obtain ⟨Cm,hx⟩ := hx
      obtain ⟨Cn,hx⟩ := hx
      obtain ⟨Co,hx⟩ := hx
      obtain ⟨Cp,hx⟩ := hx
      obtain ⟨Cq,hx⟩ := hx
      obtain ⟨Cr,hx⟩ := hx
      obtain ⟨Cs,hx⟩ := hx
      obtain ⟨Ct,hx⟩ := hx
      obtain ⟨Cu,hx⟩ := hx
      clear HNW
      have hmz : m ≤ 2000 := by have := HM.out; omega
      obtain ⟨i,xs,v,⟨hi1,him⟩,HFA,HXL,HNW,HO,ha⟩ := hx
      subst ha
      have HWY := hidMk (show IntKind.i64.wrap ((i : Int) + 1) = (i : Int) + 1 from IntWalk.i64_in _ (by omega))
      have e1 : ((i + 1 : Nat) : Int) = (i : Int) + 1 := by push_cast; rfl
      by_cases hlt : i ≤ m
      · obtain ⟨p,hp⟩ : ∃ p,l[i]? = some p := ⟨l[i]'(by have := HM.out; omega),List.getElem?_eq_getElem _⟩
        have hpz := HZ.out p (List.mem_of_getElem? hp)
        have HFS := hidMk (HFA.out.step (p := p.data.toList) (tail_at (by rwa [show i - 1 + 1 = i by omega])))
        have hi' : (i : Int) < (m : Int) + 1 := by omega
        have cx := HNW.out.row i p hp
        clear hp
        go_wp2_with fail
        refine (rsplit_any p 58 (by omega) wr).mono ?_
        rintro e w5 ⟨pl,m2,q2,cp2,hm2,hpl,hpz2,hpll,hcp2,rfl,hss2,hq2,hb5⟩
        have HM2 := hidMk hm2
        have HPL := hidMk hpl.symm
        have HZ2 := hidMk hpz2
        have HP5 := hidMk (HNW.out.next hb5)
        have HP52 : Hid (NW w0 w1.heap.size q2 pl w5) := hidMk ⟨HP5.out.below,fun k x hx => by have := hss2.2 k x hx; rwa [Nat.zero_add] at this,hss2.1,HP5.out.b1⟩
        have HO5 := hidMk (own_of' HO.out (fun g _ hl => hb5.block g hl) : w5.ownsRow w1.heap.size 3 1 v xs.length (xs.map (Value.int .i64)))
        have HQ2 := hidMk (show ∀ g,v.ownBlock = some g → q2 ≠ g from fun g e => by have := (own_block' HO.out g e).2; omega)
        clear hm2 hpl hpz2 hss2 hb5 hq2 cx HNW HO
        by_cases hgood : (m2 = 1 ∧ i ≤ r) ∨ (m2 = 0 ∧ ¬ i ≤ r)
        · have HST := hidMk ((stepF_parts (r := r) (i := i - 1) HPL.out).2 (by have := HM2.out; rw [List.length_map]; omega))
          have hb2 : ¬ (2 : Int) < (m2 : Int) + 1 := by omega
          obtain ⟨bb,hbb⟩ : ∃ b,(((m2 : Int) + 1) == 2) = b := ⟨_,rfl⟩
          have hbi : decide ((i : Int) ≤ (r : Int)) = bb := by
            rw [← hbb]
            rcases hgood with ⟨rfl,h⟩ | ⟨rfl,h⟩
            · rw [decide_eq_true (by omega)]; rfl
            · rw [decide_eq_false (by omega)]; rfl
          have hbn : decide (i ≤ r) = bb := by
            rw [← hbi]
            simp
          have hm21 : m2 ≤ 1 := by omega
          clear hgood
          go_wp2_with fail
          have hq1 : q < w1.heap.size := HQL.out
          refine wp_loop (NUI X W r n m q cp l w0 w1.heap.size q2 m2 cp2 i pl xs) (fun a_ _ => m2 + 2 - (RowKit.intOf (a_.tmps.getD 14 undef)).toNat) ?_ ?_
          · unfold NUI
            exact ⟨_,_,_,_,_,_,_,_,_,_,_,_,_,_,_,_,_,_,_,_,_,_,_,_,_,_,_,_,_,_,_,_,_,_,_,_,_,_,_,_,_,_,_,_,_,_,_,_,_,_,_,_,_,_,_,_,_,_,_,_,_,_,_,_,_,_,_,_,0,[],v,Nat.zero_le _,hidMk (by simp),hidMk rfl,HQ2,HP5,HP52,hidMk (by simpa using HO5.out),rfl⟩
          · intro a2 wr2 hx
            unfold NUI at hx
            obtain ⟨u4,hx⟩ := hx
            obtain ⟨u5,hx⟩ := hx
            obtain ⟨u6,hx⟩ := hx
            obtain ⟨u7,hx⟩ := hx
            obtain ⟨u8,hx⟩ := hx
            obtain ⟨u9,hx⟩ := hx
            obtain ⟨A5,hx⟩ := hx
            obtain ⟨A6,hx⟩ := hx
            obtain ⟨A7,hx⟩ := hx
            obtain ⟨A8,hx⟩ := hx
            obtain ⟨A9,hx⟩ := hx
            obtain ⟨Aa,hx⟩ := hx
            obtain ⟨Ab,hx⟩ := hx
            obtain ⟨Ac,hx⟩ := hx
            obtain ⟨Ad,hx⟩ := hx
            obtain ⟨Ae,hx⟩ := hx
            obtain ⟨Af,hx⟩ := hx
            obtain ⟨Ag,hx⟩ := hx
            obtain ⟨Ah,hx⟩ := hx
            obtain ⟨Ai,hx⟩ := hx
            obtain ⟨Aj,hx⟩ := hx
            obtain ⟨Ak,hx⟩ := hx
            obtain ⟨Al,hx⟩ := hx
            obtain ⟨Am,hx⟩ := hx
            obtain ⟨An,hx⟩ := hx
            obtain ⟨Ao,hx⟩ := hx
            obtain ⟨Ap,hx⟩ := hx
            obtain ⟨Aq,hx⟩ := hx
            obtain ⟨Ar,hx⟩ := hx
            obtain ⟨As,hx⟩ := hx
            obtain ⟨At,hx⟩ := hx
            obtain ⟨Au,hx⟩ := hx
            obtain ⟨Av,hx⟩ := hx
            obtain ⟨Aw,hx⟩ := hx
            obtain ⟨Ax,hx⟩ := hx
            obtain ⟨Ay,hx⟩ := hx
            obtain ⟨Az,hx⟩ := hx
            obtain ⟨C0,hx⟩ := hx
            obtain ⟨C1,hx⟩ := hx
            obtain ⟨C2,hx⟩ := hx
            obtain ⟨C3,hx⟩ := hx
            obtain ⟨C4,hx⟩ := hx
            obtain ⟨C5,hx⟩ := hx
            obtain ⟨C6,hx⟩ := hx
            obtain ⟨C7,hx⟩ := hx
            obtain ⟨C8,hx⟩ := hx
            obtain ⟨C9,hx⟩ := hx
            obtain ⟨Ca,hx⟩ := hx
            obtain ⟨Cb,hx⟩ := hx
            obtain ⟨Cc,hx⟩ := hx
            obtain ⟨Cd,hx⟩ := hx
            obtain ⟨Ce,hx⟩ := hx
            obtain ⟨Cf,hx⟩ := hx
            obtain ⟨Cg,hx⟩ := hx
            obtain ⟨Ch,hx⟩ := hx
            obtain ⟨Ci,hx⟩ := hx
            obtain ⟨Cj,hx⟩ := hx
            obtain ⟨Ck,hx⟩ := hx
            obtain ⟨Cl,hx⟩ := hx
            obtain ⟨Cm,hx⟩ := hx
            obtain ⟨Cn,hx⟩ := hx
            obtain ⟨Co,hx⟩ := hx
            obtain ⟨Cp,hx⟩ := hx
            obtain ⟨Cq,hx⟩ := hx
            obtain ⟨Cr,hx⟩ := hx
            obtain ⟨Cs,hx⟩ := hx
            obtain ⟨Ct,hx⟩ := hx
            obtain ⟨Cu,hx⟩ := hx
            clear HQ2 HP5 HP52 HO5
            obtain ⟨k,ys,v2,hk,HNU,HYL,HQ2,HPA,HPB,HOA,ha⟩ := hx
            subst ha
            have HWK := hidMk (show IntKind.i64.wrap ((k : Int) + 1) = (k : Int) + 1 from IntWalk.i64_in _ (by omega))
            have ek : ((k + 1 : Nat) : Int) = (k : Int) + 1 := by push_cast; rfl
            by_cases hk2 : k ≤ m2
            · obtain ⟨x,hx⟩ : ∃ x,pl[k]? = some x := ⟨pl[k]'(by have := HM2.out; omega),List.getElem?_eq_getElem _⟩
              have hxz := HZ2.out x (List.mem_of_getElem? hx)
              have HNS := hidMk (numsR_step HNU.out (show (bytes pl)[k]? = some x.data.toList by rw [List.getElem?_map,hx]; rfl))
              have hk' : (k : Int) < (m2 : Int) + 1 := by omega
              have ck := HPB.out.row k x hx
              clear hx
              go_wp2_with fail
              refine (number_any x (by omega) wr2).mono ?_
              rintro e w6 ⟨hb6,nv,bv,rfl,hn⟩
              have HN6 := hidMk hn
              have HPA6 := hidMk (HPA.out.next hb6)
              have HPB6 := hidMk (HPB.out.next hb6)
              have HOA6 := hidMk (own_of' HOA.out (fun g _ hl => hb6.block g hl) : w6.ownsRow w1.heap.size 3 1 v2 (xs ++ ys).length ((xs ++ ys).map (Value.int .i64)))
              clear hb6 hn ck HPA HPB HOA
              cases bv with
              | false =>
                have HNO := hidMk (show (ap W.data.toList r n (split X.data.toList [32])).map fl = none by rw [HAP.out]; exact HFS.out.1 (HST.out.trans (HNS.out.1 HN6.out)))
                go_wp2_with fail
                refine bodyPost_ret (v := .tuple #[.slice none 0 0,.bool false]) (by simp [results,Tryz.results37,go_sem]) rfl ?_
                exact NUQ.no HNO.out HPA6.out.below
              | true =>
                have hxl := HXL.out
                have hyl := HYL.out
                have hll2 : (xs ++ ys).length + 1 ≤ 100000 := by rw [List.length_append]; omega
                obtain ⟨zs,hzs⟩ : ∃ zs,xs ++ ys = zs := ⟨_,rfl⟩
                rw [hzs] at HOA6 hll2
                have HZS := hidMk hzs
                clear hzs hxl hyl
                have wy := HWK.out
                have hb1 := HPA6.out.b1.2
                go_wp2_with (at_builtin; refine wpList_append_own_at _ rfl (.tmp 72) (.tmp 74) 31 rfl w1.heap.size 3 tj (.int .i64 0) 1 8 Tryz.underlying31 Hj.out Hjz.out Hjs.out Hjb.out rfl (by decide) v2 zs.length (zs.map (Value.int .i64)) rfl (HOA6.out.alloc _) ⟨w6.heap.size,0,none⟩ 1 1 [.int .i64 nv] rfl rfl (fun j y hy => by rw [Addr.add_mid,Nat.zero_add]; exact (Bk.new w6 3 #[.int .i64 nv]).at_ j y (by simpa using hy)) (by intro y hy; simp at hy; subst hy; rfl) (by unfold maxLen; omega) (by omega) (by simp; omega) ?_; intro v' w7 own' hg _ at_)
                have HO7 := hidMk own'
                have HG7 := hidMk hg
                have HAT := hidMk at_
                clear own' hg at_
                refine ⟨?_,by first | (simp [RowKit.intOf]; done) | (simp [RowKit.intOf]; omega)⟩
                unfold NUI
                refine ⟨_,_,_,_,_,_,_,_,_,_,_,_,_,_,_,_,_,_,_,_,_,_,_,_,_,_,_,_,_,_,_,_,_,_,_,_,_,_,_,_,_,_,_,_,_,_,_,_,_,_,_,_,_,_,_,_,_,_,_,_,_,_,_,_,_,_,_,_,k + 1,ys ++ [nv],v',by omega,hidMk (HNS.out.2 nv HN6.out),hidMk ?_,hidMk ?_,hidMk ?_,hidMk ?_,hidMk ?_,by rw [ek]⟩
                · rw [List.length_append,HYL.out]
                  rfl
                · intro g hg
                  rcases HAT.out with h | h
                  · exact HQ2.out g (h ▸ hg)
                  · rw [h] at hg
                    injection hg with hg
                    have := HPB6.out.lt
                    simp at hg
                    omega
                · exact (HPA6.out.next (below0 w6 _)).grown HG7.out (fun g e => (own_block' HOA6.out g e).1) (fun g e => by have := (own_block' HOA6.out g e).1; omega)
                · exact (HPB6.out.next (below0 w6 _)).grown HG7.out (fun g e => (own_block' HOA6.out g e).1) HQ2.out
                · have h7 := HO7.out
                  rw [show xs ++ (ys ++ [nv]) = zs ++ [nv] by rw [← HZS.out,List.append_assoc],List.map_append,List.length_append]
                  exact h7
            · obtain rfl : k = m2 + 1 := by omega
              have hk' : ¬ ((m2 + 1 : Nat) : Int) < (m2 : Int) + 1 := by omega
              have hnum : numsR (bytes pl) = some ys := by
                rw [HNU.out,List.drop_of_length_le (by rw [List.length_map,HM2.out]; exact Nat.le_refl _)]
                simp [numsR]
              have HNX := hidMk (HFS.out.2 ys (HST.out.trans hnum))
              have wy := HWY.out
              clear hnum
              go_wp2_with fail
              refine ⟨?_,by first | (simp [RowKit.intOf]; done) | (simp [RowKit.intOf]; omega)⟩
              unfold NUO
              refine ⟨_,_,_,_,_,_,_,_,_,_,_,_,_,_,_,_,_,_,_,_,_,_,_,_,_,_,_,_,_,_,_,_,_,_,_,_,_,_,_,_,_,_,_,_,_,_,_,_,_,_,_,_,_,_,_,_,_,_,_,_,_,_,_,_,_,_,_,_,_,_,i + 1,xs ++ ys,v2,⟨by omega,by omega⟩,hidMk ?_,hidMk ?_,HPA,HOA,by rw [e1]⟩
              · have := HNX.out
                rwa [show i - 1 + 1 = i + 1 - 1 by omega] at this
              · have h1 := HXL.out
                have h2 := HYL.out
                rw [List.length_append]
                omega
        · by_cases hir : i ≤ r
          · have HNO := hidMk (show (ap W.data.toList r n (split X.data.toList [32])).map fl = none by rw [HAP.out]; exact HFS.out.1 ((stepF_parts HPL.out).1 (by have := HM2.out; rw [List.length_map]; omega)))
            have f1 : ((m2 : Int) + 1 == 2) = false := by rw [beq_eq_false_iff_ne]; omega
            have f2 : (i : Int) ≤ (r : Int) := by omega
            go_wp2_with fail
            refine bodyPost_ret (v := .tuple #[.slice none 0 0,.bool false]) (by simp [results,Tryz.results37,go_sem]) rfl ?_
            exact NUQ.no HNO.out HP5.out.below
          · by_cases h1 : m2 = 1
            · have HNO := hidMk (show (ap W.data.toList r n (split X.data.toList [32])).map fl = none by rw [HAP.out]; exact HFS.out.1 ((stepF_parts HPL.out).1 (by have := HM2.out; rw [List.length_map]; omega)))
              have f1 : ((m2 : Int) + 1 == 2) = true := by rw [h1]; rfl
              have f2 : ¬ (i : Int) ≤ (r : Int) := by omega
              go_wp2_with fail
              refine bodyPost_ret (v := .tuple #[.slice none 0 0,.bool false]) (by simp [results,Tryz.results37,go_sem]) rfl ?_
              exact NUQ.no HNO.out HP5.out.below
            · have HNO := hidMk (show (ap W.data.toList r n (split X.data.toList [32])).map fl = none by rw [HAP.out]; exact HFS.out.1 ((stepF_parts HPL.out).1 (by have := HM2.out; rw [List.length_map]; omega)))
              have f1 : ((m2 : Int) + 1 == 2) = false := by rw [beq_eq_false_iff_ne]; omega
              have f2 : ¬ (i : Int) ≤ (r : Int) := by omega
              have f3 : (2 : Int) < (m2 : Int) + 1 := by omega
              go_wp2_with fail
              refine bodyPost_ret (v := .tuple #[.slice none 0 0,.bool false]) (by simp [results,Tryz.results37,go_sem]) rfl ?_
              exact NUQ.no HNO.out HP5.out.below
      · obtain rfl : i = m + 1 := by omega
        have hi' : ¬ ((m + 1 : Nat) : Int) < (m : Int) + 1 := by omega
        have HDN := hidMk (show (ap W.data.toList r n (split X.data.toList [32])).map fl = some xs by rw [HAP.out]; exact HFA.out.done (by rw [List.length_tail,List.length_map,HM.out]; omega))
        go_wp2_with fail
        refine bodyPost_ret (v := .tuple #[v,.bool true]) (by simp [results,Tryz.results37,go_sem]) rfl ⟨HNW.out.below,.inr ⟨xs,v,HDN.out,rfl,own_lo HO.out HNW.out.b1.1⟩⟩
  · have hl' : (((m + 1 : Nat) : Int) != (1 : Int) + (r : Int) + (n : Int)) = true := by
      have := HM.out
      rw [bne_iff_ne]
      omega
    have HN := hidMk (show (ap W.data.toList r n (split X.data.toList [32])).map fl = none by rw [← HBL.out]; exact apF_len hl)
    have w1' := HW12.out.1
    have w2' := HW12.out.2
    clear hl
    go_wp2_with fail
    refine bodyPost_ret (v := .tuple #[.slice none 0 0,.bool false]) (by simp [results,Tryz.results37,go_sem]) rfl ?_
    exact NUQ.no HN.out HNW.out.below
end Go.Proofs.YtljefjngmembkaaGreatDoor
