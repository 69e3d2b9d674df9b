/- Part 24 of the proof: RtD, RtE, RtF, RtG. -/
import Derived.Maps.AppendAt
import Derived.Test.YtljefjngmembkaaGreatDoorT23
import Derived.Test.YtljefjngmembkaaGreatDoorT14
import Derived.Test.YtljefjngmembkaaGreatDoorT19
namespace Go.Proofs.YtljefjngmembkaaGreatDoor
set_option linter.all false
open Go.RowKit
noncomputable def nbbody : Code := Tryz.f61.body.getD .skip
noncomputable def nbrest1 : Code := sndB nbbody
noncomputable def nbrest2 : Code := sndB nbrest1
noncomputable def nbrest3 : Code := sndB nbrest2
noncomputable def nbrest4 : Code := sndB nbrest3
noncomputable def nbrest5 : Code := sndB nbrest4
noncomputable def nbrest6 : Code := sndB nbrest5
set_option maxRecDepth 1000000 in
theorem nbbody_eq : nbbody = .seq (Code.region 0 #[⟨some 2,.assign (.const (.int .i64 0)),3,"text.go:39",#[],none⟩,⟨some 3,.assign (.const (.bool false)),4,"text.go:39",#[⟨0,.chain⟩],none⟩] false) nbrest1 := by kernel_rfl
set_option maxRecDepth 1000000 in
theorem nbrest1_eq : nbrest1 = .seq (Code.region 1 #[⟨some 4,.assign (.const (.int .i64 1)),3,"text.go:40",#[],none⟩] false) nbrest2 := by kernel_rfl
set_option maxRecDepth 1000000 in
theorem nbrest2_eq : nbrest2 = .seq (.seq (Code.region 2 #[⟨some 7,.move (.tmp 0),9,"text.go:41",#[],none⟩,⟨some 8,.call { callee := .builtin .len,args := #[.tmp 7],argTypes := #[9] },3,"text.go:41",#[⟨0,.data⟩],none⟩,⟨some 9,.binOp .gtr 3 (.tmp 8) (.const (.int .i64 0)) 3,4,"text.go:41",#[⟨1,.data⟩],none⟩,⟨some 10,.move (.tmp 9),4,"text.go:41",#[⟨2,.data⟩],none⟩,⟨some 11,.move (.tmp 0),9,"text.go:41",#[⟨3,.guard⟩],some (3,true)⟩,⟨some 12,.index 9 (.tmp 11) (.const (.int .i64 0)),5,"text.go:41",#[⟨4,.data⟩,⟨3,.guard⟩],some (3,true)⟩,⟨some 13,.binOp .eql 5 (.tmp 12) (.const (.int .u8 45)) 5,4,"text.go:41",#[⟨5,.data⟩,⟨3,.guard⟩],some (3,true)⟩,⟨some 14,.pick (.tmp 10) (.tmp 13) (.const (.bool false)),4,"text.go:41",#[⟨3,.data⟩,⟨6,.data⟩],none⟩] false) (.cond (.tmp 14) (Code.region 3 #[⟨some 15,.move (.tmp 0),9,"text.go:42",#[],none⟩,⟨some 16,.slice 9 (.tmp 15) (some (.const (.int .i64 1))) none none,9,"text.go:42",#[⟨0,.data⟩],none⟩,⟨some 4,.assign (.const (.int .i64 (-1))),3,"text.go:42",#[⟨0,.textOnly .lateStores⟩,⟨1,.textOnly .lateStoresUnsure⟩],none⟩,⟨some 0,.assign (.tmp 16),9,"text.go:42",#[⟨1,.data⟩,⟨2,.chain⟩,⟨0,.phase⟩,⟨1,.phase⟩,⟨2,.phase⟩],none⟩] true) .skip)) nbrest3 := by kernel_rfl
set_option maxRecDepth 1000000 in
theorem nbrest3_eq : nbrest3 = .seq (.seq (Code.region 4 #[⟨some 17,.move (.tmp 0),9,"text.go:44",#[],none⟩,⟨some 18,.call { callee := .builtin .len,args := #[.tmp 17],argTypes := #[9] },3,"text.go:44",#[⟨0,.data⟩],none⟩,⟨some 19,.binOp .lss 3 (.tmp 18) (.const (.int .i64 1)) 3,4,"text.go:44",#[⟨1,.data⟩],none⟩,⟨some 20,.move (.tmp 19),4,"text.go:44",#[⟨2,.data⟩],none⟩,⟨some 21,.move (.tmp 0),9,"text.go:44",#[⟨3,.guard⟩],some (3,false)⟩,⟨some 22,.call { callee := .builtin .len,args := #[.tmp 21],argTypes := #[9] },3,"text.go:44",#[⟨4,.data⟩,⟨3,.guard⟩],some (3,false)⟩,⟨some 23,.binOp .gtr 3 (.tmp 22) (.const (.int .i64 3)) 3,4,"text.go:44",#[⟨5,.data⟩,⟨3,.guard⟩],some (3,false)⟩,⟨some 24,.pick (.tmp 20) (.const (.bool true)) (.tmp 23),4,"text.go:44",#[⟨3,.data⟩,⟨6,.data⟩],none⟩,⟨some 25,.move (.tmp 24),4,"text.go:44",#[⟨7,.data⟩,⟨3,.chain⟩],none⟩,⟨some 26,.move (.tmp 0),9,"text.go:44",#[⟨8,.guard⟩],some (8,false)⟩,⟨some 27,.index 9 (.tmp 26) (.const (.int .i64 0)),5,"text.go:44",#[⟨9,.data⟩,⟨8,.guard⟩],some (8,false)⟩,⟨some 28,.binOp .eql 5 (.tmp 27) (.const (.int .u8 48)) 5,4,"text.go:44",#[⟨10,.data⟩,⟨8,.guard⟩],some (8,false)⟩,⟨some 29,.move (.tmp 28),4,"text.go:44",#[⟨11,.data⟩,⟨8,.chain⟩,⟨8,.guard⟩],some (8,false)⟩,⟨some 30,.move (.tmp 0),9,"text.go:44",#[⟨12,.guard⟩],some (12,true)⟩,⟨some 31,.call { callee := .builtin .len,args := #[.tmp 30],argTypes := #[9] },3,"text.go:44",#[⟨13,.data⟩,⟨12,.guard⟩],some (12,true)⟩,⟨some 32,.binOp .gtr 3 (.tmp 31) (.const (.int .i64 1)) 3,4,"text.go:44",#[⟨14,.data⟩,⟨12,.guard⟩],some (12,true)⟩,⟨some 33,.move (.tmp 32),4,"text.go:44",#[⟨15,.data⟩,⟨12,.chain⟩,⟨12,.guard⟩],some (12,true)⟩,⟨some 34,.move (.tmp 4),3,"text.go:44",#[⟨16,.guard⟩],some (16,false)⟩,⟨some 35,.binOp .lss 3 (.tmp 34) (.const (.int .i64 0)) 3,4,"text.go:44",#[⟨17,.data⟩,⟨16,.guard⟩],some (16,false)⟩,⟨some 36,.pick (.tmp 33) (.const (.bool true)) (.tmp 35),4,"text.go:44",#[⟨16,.data⟩,⟨18,.data⟩,⟨12,.guard⟩],some (12,true)⟩,⟨some 37,.pick (.tmp 29) (.tmp 36) (.const (.bool false)),4,"text.go:44",#[⟨12,.data⟩,⟨19,.data⟩,⟨8,.guard⟩],some (8,false)⟩,⟨some 38,.pick (.tmp 25) (.const (.bool true)) (.tmp 37),4,"text.go:44",#[⟨8,.data⟩,⟨20,.data⟩],none⟩] false) (.cond (.tmp 38) (.seq (Code.region 5 #[⟨some 2,.assign (.const (.int .i64 0)),3,"text.go:45",#[],none⟩,⟨some 3,.assign (.const (.bool false)),4,"text.go:45",#[⟨0,.chain⟩,⟨0,.phase⟩],none⟩] false) .ret) .skip)) nbrest4 := by kernel_rfl
set_option maxRecDepth 1000000 in
theorem nbrest4_eq : nbrest4 = .seq (Code.region 6 #[⟨some 5,.assign (.const (.int .i64 0)),3,"text.go:47",#[],none⟩] false) nbrest5 := by kernel_rfl
set_option maxRecDepth 1000000 in
theorem nbrest5_eq : nbrest5 = .seq (.seq (Code.region 7 #[⟨some 6,.assign (.const (.int .i64 0)),3,"text.go:48",#[],none⟩] false) (.block 0 (.loop (.seq (.seq (Code.region 8 #[⟨some 39,.move (.tmp 6),3,"text.go:48",#[],none⟩,⟨some 40,.move (.tmp 0),9,"text.go:48",#[],none⟩,⟨some 41,.call { callee := .builtin .len,args := #[.tmp 40],argTypes := #[9] },3,"text.go:48",#[⟨1,.data⟩],none⟩,⟨some 42,.binOp .lss 3 (.tmp 39) (.tmp 41) 3,4,"text.go:48",#[⟨0,.data⟩,⟨2,.data⟩],none⟩] false) (.cond (.tmp 42) .skip (.exit 0))) (.seq (.block 1 (.seq (.seq (Code.region 10 #[⟨some 45,.move (.tmp 0),9,"text.go:49",#[],none⟩,⟨some 46,.move (.tmp 6),3,"text.go:49",#[],none⟩,⟨some 47,.index 9 (.tmp 45) (.tmp 46),5,"text.go:49",#[⟨0,.data⟩,⟨1,.data⟩],none⟩,⟨some 48,.binOp .lss 5 (.tmp 47) (.const (.int .u8 48)) 5,4,"text.go:49",#[⟨2,.data⟩],none⟩,⟨some 49,.move (.tmp 48),4,"text.go:49",#[⟨3,.data⟩],none⟩,⟨some 50,.move (.tmp 0),9,"text.go:49",#[⟨4,.guard⟩],some (4,false)⟩,⟨some 51,.move (.tmp 6),3,"text.go:49",#[⟨4,.guard⟩],some (4,false)⟩,⟨some 52,.index 9 (.tmp 50) (.tmp 51),5,"text.go:49",#[⟨5,.data⟩,⟨6,.data⟩,⟨4,.guard⟩],some (4,false)⟩,⟨some 53,.binOp .gtr 5 (.tmp 52) (.const (.int .u8 57)) 5,4,"text.go:49",#[⟨7,.data⟩,⟨4,.guard⟩],some (4,false)⟩,⟨some 54,.pick (.tmp 49) (.const (.bool true)) (.tmp 53),4,"text.go:49",#[⟨4,.data⟩,⟨8,.data⟩],none⟩] false) (.cond (.tmp 54) (.seq (Code.region 11 #[⟨some 2,.assign (.const (.int .i64 0)),3,"text.go:50",#[],none⟩,⟨some 3,.assign (.const (.bool false)),4,"text.go:50",#[⟨0,.chain⟩,⟨0,.phase⟩],none⟩] false) .ret) .skip)) (Code.region 12 #[⟨some 55,.move (.tmp 5),3,"text.go:52",#[],none⟩,⟨some 56,.binOp .mul 3 (.const (.int .i64 10)) (.tmp 55) 3,3,"text.go:52",#[⟨0,.data⟩],none⟩,⟨some 57,.move (.tmp 0),9,"text.go:52",#[],none⟩,⟨some 58,.move (.tmp 6),3,"text.go:52",#[],none⟩,⟨some 59,.index 9 (.tmp 57) (.tmp 58),5,"text.go:52",#[⟨2,.data⟩,⟨3,.data⟩],none⟩,⟨some 60,.binOp .sub 5 (.tmp 59) (.const (.int .u8 48)) 5,5,"text.go:52",#[⟨4,.data⟩],none⟩,⟨some 61,.convert 5 3 (.tmp 60),3,"text.go:52",#[⟨5,.data⟩],none⟩,⟨some 62,.binOp .add 3 (.tmp 56) (.tmp 61) 3,3,"text.go:52",#[⟨1,.data⟩,⟨6,.data⟩],none⟩,⟨some 5,.assign (.tmp 62),3,"text.go:52",#[⟨7,.data⟩,⟨0,.phase⟩,⟨1,.phase⟩,⟨2,.phase⟩,⟨3,.phase⟩,⟨4,.phase⟩,⟨5,.phase⟩,⟨6,.phase⟩,⟨7,.phase⟩],none⟩] false))) (Code.region 9 #[⟨some 43,.move (.tmp 6),3,"text.go:48",#[],none⟩,⟨some 44,.binOp .add 3 (.tmp 43) (.const (.int .i64 1)) 3,3,"text.go:48",#[⟨0,.data⟩],none⟩,⟨some 6,.assign (.tmp 44),3,"text.go:48",#[⟨1,.data⟩,⟨0,.phase⟩,⟨1,.phase⟩],none⟩] false)))))) nbrest6 := by kernel_rfl
set_option maxRecDepth 1000000 in
theorem nbrest6_eq : nbrest6 = .seq (Code.region 13 #[⟨some 63,.move (.tmp 4),3,"text.go:54",#[],none⟩,⟨some 64,.move (.tmp 5),3,"text.go:54",#[],none⟩,⟨some 65,.binOp .mul 3 (.tmp 63) (.tmp 64) 3,3,"text.go:54",#[⟨0,.data⟩,⟨1,.data⟩],none⟩,⟨some 2,.assign (.tmp 65),3,"text.go:54",#[⟨2,.data⟩,⟨0,.phase⟩,⟨1,.phase⟩,⟨2,.phase⟩],none⟩,⟨some 3,.assign (.const (.bool true)),4,"text.go:54",#[⟨3,.chain⟩,⟨0,.phase⟩,⟨1,.phase⟩,⟨2,.phase⟩,⟨3,.phase⟩],none⟩] false) .ret := by kernel_rfl

def numL : Int → List UInt8 → Option Int
  | acc,[] => some acc
  | acc,c :: r => if 48 ≤ c.toNat ∧ c.toNat ≤ 57 then numL (10 * acc + ((c.toNat : Int) - 48)) r else none
def numD (sg : Int) (ds : List UInt8) : Option Int :=
  if ds.length < 1 ∨ 3 < ds.length ∨ (ds.head? = some 48 ∧ (1 < ds.length ∨ sg < 0)) then none else (numL 0 ds).map fun n => sg * n
def NumQ (r : Option Int) (w : World) (e : Ending) (w' : World) : Prop := Below w.heap.size w w' ∧ ∃ v b,e = .returned (.tuple #[.int .i64 v,.bool b]) ∧ r = if b then some v else none
def QNB (r0 : Option Int) (w0 : World) : Exit → Act → World → Prop := bodyPost Tryz.prog Tryz.f61 (NumQ r0 w0)
theorem u8_small (n : Nat) (h : n < 256) : IntKind.u8.wrap (n : Int) = (n : Int) := IntWalk.u8_in _ (by omega)
def Dg (i : Nat) (acc : Int) : Prop := (i = 0 ∧ acc = 0) ∨ (i = 1 ∧ 0 ≤ acc ∧ acc ≤ 9) ∨ (i = 2 ∧ 0 ≤ acc ∧ acc ≤ 99) ∨ (i = 3 ∧ 0 ≤ acc ∧ acc ≤ 999)
theorem byte_at (X : ByteArray) (i : Nat) (h : i < X.size) : X.data.toList[i]? = some X[i] := by
  rw [List.getElem?_eq_getElem (show i < X.data.toList.length from h)]
  rfl
theorem numL_step {acc : Int} {l : List UInt8} {i : Nat} {c : UInt8} (h : numL 0 l = numL acc (l.drop i)) (hc : l[i]? = some c) :
    (¬ (48 ≤ c.toNat ∧ c.toNat ≤ 57) → numL 0 l = none) ∧ (48 ≤ c.toNat ∧ c.toNat ≤ 57 → numL 0 l = numL (10 * acc + ((c.toNat : Int) - 48)) (l.drop (i + 1))) := by
  obtain ⟨hl,he⟩ := List.getElem?_eq_some_iff.1 hc
  rw [h,List.drop_eq_getElem_cons hl,he,numL]
  exact ⟨fun hn => if_neg hn,fun hp => if_pos hp⟩
def NBI (X : ByteArray) (sg : Int) (w0 : World) (a_ : Act) (wr : World) : Prop := ∃ (u1 u2 u3 u7 u8 u9 A0 A1 A2 A3 A4 A5 A6 A7 A8 A9 Aa Ab Ac Ad Ae Af Ag Ah Ai Aj Ak Al Am An Ao Ap Aq Ar As At Au Av Aw Ax Ay Az C0 C1 C2 C3 C4 C5 C6 C7 C8 C9 Ca Cb Cc Cd Ce Cf Cg Ch Ci Cj : Value) (i : Nat) (acc : Int),i ≤ X.size ∧ Hid (Below w0.heap.size w0 wr) ∧ Hid (numL 0 X.data.toList = numL acc (X.data.toList.drop i)) ∧ Hid (Dg i acc) ∧ a_ = ⟨#[(.string X),u1,u2,u3,(.int .i64 sg),(.int .i64 acc),(.int .i64 i),u7,u8,u9,A0,A1,A2,A3,A4,A5,A6,A7,A8,A9,Aa,Ab,Ac,Ad,Ae,Af,Ag,Ah,Ai,Aj,Ak,Al,Am,An,Ao,Ap,Aq,Ar,As,At,Au,Av,Aw,Ax,Ay,Az,C0,C1,C2,C3,C4,C5,C6,C7,C8,C9,Ca,Cb,Cc,Cd,Ce,Cf,Cg,Ch,Ci,Cj],[]⟩
set_option maxHeartbeats 2000000 in
set_option maxRecDepth 1000000 in
theorem nbpart4 {X : ByteArray} {sg : Int} {w w0 : World} {r0 : Option Int} {u1 u2 u3 u5 u6 u7 u8 u9 A0 A1 A2 A3 A4 A5 A6 A7 A8 A9 Aa Ab Ac Ad Ae Af Ag Ah Ai Aj Ak Al Am An Ao Ap Aq Ar As At Au Av Aw Ax Ay Az C0 C1 C2 C3 C4 C5 C6 C7 C8 C9 Ca Cb Cc Cd Ce Cf Cg Ch Ci Cj : Value} (HX : Hid (1 ≤ X.size ∧ X.size ≤ 3)) (hsg : sg = 1 ∨ sg = -1) (HB : Hid (Below w0.heap.size w0 w)) (HR : Hid (r0 = (numL 0 X.data.toList).map fun n => sg * n)) : Code.wp Tryz.prog nbrest4 (QNB r0 w0) ⟨#[(.string X),u1,u2,u3,(.int .i64 sg),u5,u6,u7,u8,u9,A0,A1,A2,A3,A4,A5,A6,A7,A8,A9,Aa,Ab,Ac,Ad,Ae,Af,Ag,Ah,Ai,Aj,Ak,Al,Am,An,Ao,Ap,Aq,Ar,As,At,Au,Av,Aw,Ax,Ay,Az,C0,C1,C2,C3,C4,C5,C6,C7,C8,C9,Ca,Cb,Cc,Cd,Ce,Cf,Cg,Ch,Ci,Cj],[]⟩ w := by
  have HSG := hidMk hsg
  clear hsg
  rw [nbrest4_eq]
  go_wp2_with fail
  rw [nbrest5_eq]
  have HN0 : Hid (((0 : Nat) : Int) = 0) := hidMk rfl
  go_wp2_with fail
  refine wp_loop (NBI X sg w0) (fun a_ _ => X.size - (intOf (a_.tmps.getD 6 undef)).toNat) ?_ ?_
  · exact ⟨_,_,_,_,_,_,_,_,_,_,_,_,_,_,_,_,_,_,_,_,_,_,_,_,_,_,_,_,_,_,_,_,_,_,_,_,_,_,_,_,_,_,_,_,_,_,_,_,_,_,_,_,_,_,_,_,_,_,_,_,_,_,0,0,Nat.zero_le _,HB,hidMk rfl,hidMk (.inl ⟨rfl,rfl⟩),rfl⟩
  · intro a_ wr hx
    unfold NBI at hx
    obtain ⟨u1,hx⟩ := hx
    obtain ⟨u2,hx⟩ := hx
    obtain ⟨u3,hx⟩ := hx
    obtain ⟨u7,hx⟩ := hx
    obtain ⟨u8,hx⟩ := hx
    obtain ⟨u9,hx⟩ := hx
    obtain ⟨A0,hx⟩ := hx
    obtain ⟨A1,hx⟩ := hx
    obtain ⟨A2,hx⟩ := hx
    obtain ⟨A3,hx⟩ := hx
    obtain ⟨A4,hx⟩ := hx
    obtain ⟨A5,hx⟩ := hx
    obtain ⟨A6,hx⟩ := hx
    obtain ⟨A7,hx⟩ := hx
    obtain ⟨A8,hx⟩ := hx
    obtain ⟨A9,hx⟩ := hx
    obtain ⟨Aa,hx⟩ := hx
    obtain ⟨Ab,hx⟩ := hx
    obtain ⟨Ac,hx⟩ := hx
    obtain ⟨Ad,hx⟩ := hx
    obtain ⟨Ae,hx⟩ := hx
    obtain ⟨Af,hx⟩ := hx
    obtain ⟨Ag,hx⟩ := hx
    obtain ⟨Ah,hx⟩ := hx
    obtain ⟨Ai,hx⟩ := hx
    obtain ⟨Aj,hx⟩ := hx
    obtain ⟨Ak,hx⟩ := hx
    obtain ⟨Al,hx⟩ := hx
    obtain ⟨Am,hx⟩ := hx
    obtain ⟨An,hx⟩ := hx
    obtain ⟨Ao,hx⟩ := hx
    obtain ⟨Ap,hx⟩ := hx
    obtain ⟨Aq,hx⟩ := hx
    obtain ⟨Ar,hx⟩ := hx
    obtain ⟨As,hx⟩ := hx
    obtain ⟨At,hx⟩ := hx
    obtain ⟨Au,hx⟩ := hx
    obtain ⟨Av,hx⟩ := hx
    obtain ⟨Aw,hx⟩ := hx
    obtain ⟨Ax,hx⟩ := hx
    obtain ⟨Ay,hx⟩ := hx
    obtain ⟨Az,hx⟩ := hx
    obtain ⟨C0,hx⟩ := hx
    obtain ⟨C1,hx⟩ := hx
    obtain ⟨C2,hx⟩ := hx
    obtain ⟨C3,hx⟩ := hx
    obtain ⟨C4,hx⟩ := hx
    obtain ⟨C5,hx⟩ := hx
    obtain ⟨C6,hx⟩ := hx
    obtain ⟨C7,hx⟩ := hx
    obtain ⟨C8,hx⟩ := hx
    obtain ⟨C9,hx⟩ := hx
    obtain ⟨Ca,hx⟩ := hx
    obtain ⟨Cb,hx⟩ := hx
    obtain ⟨Cc,hx⟩ := hx
    obtain ⟨Cd,hx⟩ := hx
    obtain ⟨Ce,hx⟩ := hx
    obtain ⟨Cf,hx⟩ := hx
    obtain ⟨Cg,hx⟩ := hx
    obtain ⟨Ch,hx⟩ := hx
    obtain ⟨Ci,hx⟩ := hx
    obtain ⟨Cj,hx⟩ := hx
    clear HB
    obtain ⟨i,acc,hi,HB,HL,HD,ha⟩ := hx
    subst ha
    have hx3 := HX.out.2
    have HWY := hidMk (show IntKind.i64.wrap ((i : Int) + 1) = (i : Int) + 1 from IntWalk.i64_in _ (by omega))
    by_cases hlt : i < X.size
    · have hc := byte_at X i hlt
      obtain ⟨c,hcx⟩ : ∃ c,X[i] = c := ⟨_,rfl⟩
      rw [hcx] at hc
      have HST := hidMk (numL_step HL.out hc)
      have hcb := c.toNat_lt
      have hi1 : (i : Int) < (X.size : Int) := by omega
      have hai : 0 ≤ acc ∧ acc ≤ 99 := by have := HD.out; unfold Dg at this; omega
      by_cases h48 : c.toNat < 48
      · have h48' : (c.toNat : Int) < 48 := by omega
        go_wp2_with fail
        refine bodyPost_ret (v := .tuple #[.int .i64 0,.bool false]) (by simp [results,Tryz.results61,go_sem]) rfl ⟨HB.out,0,false,rfl,?_⟩
        rw [HR.out,HST.out.1 (by omega)]
        rfl
      · have h48' : ¬ (c.toNat : Int) < 48 := by omega
        by_cases h57 : 57 < c.toNat
        · have h57' : (57 : Int) < (c.toNat : Int) := by omega
          go_wp2_with fail
          refine bodyPost_ret (v := .tuple #[.int .i64 0,.bool false]) (by simp [results,Tryz.results61,go_sem]) rfl ⟨HB.out,0,false,rfl,?_⟩
          rw [HR.out,HST.out.1 (by omega)]
          rfl
        · have h57' : ¬ (57 : Int) < (c.toNat : Int) := by omega
          have w1 : IntKind.u8.wrap ((c.toNat : Int) - 48) = (c.toNat : Int) - 48 := by rw [show (c.toNat : Int) - 48 = ((c.toNat - 48 : Nat) : Int) by omega]; exact u8_small _ (by omega)
          have w2 : IntKind.i64.wrap (10 * acc) = 10 * acc := IntWalk.i64_in _ (by omega)
          have w3 : IntKind.i64.wrap (10 * acc + ((c.toNat : Int) - 48)) = 10 * acc + ((c.toNat : Int) - 48) := IntWalk.i64_in _ (by omega)
          have w4 : IntKind.i64.wrap ((c.toNat : Int) - 48) = (c.toNat : Int) - 48 := IntWalk.i64_in _ (by omega)
          have wy := HWY.out
          have e1 : ((i + 1 : Nat) : Int) = (i : Int) + 1 := by push_cast; rfl
          go_wp2_with fail
          refine ⟨?_,by simp [intOf]; omega⟩
          unfold NBI
          exact ⟨_,_,_,_,_,_,_,_,_,_,_,_,_,_,_,_,_,_,_,_,_,_,_,_,_,_,_,_,_,_,_,_,_,_,_,_,_,_,_,_,_,_,_,_,_,_,_,_,_,_,_,_,_,_,_,_,_,_,_,_,_,_,i + 1,10 * acc + ((c.toNat : Int) - 48),by omega,HB,hidMk (HST.out.2 ⟨by omega,by omega⟩),hidMk (by have := HD.out; unfold Dg at this ⊢; omega),by rw [e1]⟩
    · obtain rfl : i = X.size := by omega
      have hlt' : ¬ (X.size : Int) < (X.size : Int) := by omega
      have hai : 0 ≤ acc ∧ acc ≤ 999 := by have := HD.out; unfold Dg at this; omega
      have wm : IntKind.i64.wrap (sg * acc) = sg * acc := IntWalk.i64_in _ (by rcases HSG.out with rfl | rfl <;> omega)
      have HE := hidMk (show r0 = some (sg * acc) by
        rw [HR.out,HL.out,List.drop_of_length_le (show X.data.toList.length ≤ X.size from Nat.le_refl _)]
        rfl)
      go_wp2_with fail
      rw [nbrest6_eq]
      go_wp2_with fail
      refine bodyPost_ret (v := .tuple #[.int .i64 (sg * acc),.bool true]) (by simp [results,Tryz.results61,go_sem]) rfl ⟨HB.out,sg * acc,true,rfl,HE.out⟩
theorem numD_no {sg : Int} {ds : List UInt8} (h : ds.length < 1 ∨ 3 < ds.length ∨ (ds.head? = some 48 ∧ (1 < ds.length ∨ sg < 0))) : numD sg ds = none := by unfold numD; rw [if_pos h]
theorem numD_go {sg : Int} {ds : List UInt8} (h : ¬ (ds.length < 1 ∨ 3 < ds.length ∨ (ds.head? = some 48 ∧ (1 < ds.length ∨ sg < 0)))) : numD sg ds = (numL 0 ds).map fun n => sg * n := by unfold numD; rw [if_neg h]
set_option maxHeartbeats 2000000 in
set_option maxRecDepth 1000000 in
theorem nbpart3 {X : ByteArray} {sg : Int} {w w0 : World} {r0 : Option Int} {u1 u2 u3 u5 u6 u7 u8 u9 A0 A1 A2 A3 A4 A5 A6 A7 A8 A9 Aa Ab Ac Ad Ae Af Ag Ah Ai Aj Ak Al Am An Ao Ap Aq Ar As At Au Av Aw Ax Ay Az C0 C1 C2 C3 C4 C5 C6 C7 C8 C9 Ca Cb Cc Cd Ce Cf Cg Ch Ci Cj : Value} (hX : X.size ≤ 1000) (hsg : sg = 1 ∨ sg = -1) (HB : Hid (Below w0.heap.size w0 w)) (HR : Hid (r0 = numD sg X.data.toList)) : Code.wp Tryz.prog nbrest3 (QNB r0 w0) ⟨#[(.string X),u1,u2,u3,(.int .i64 sg),u5,u6,u7,u8,u9,A0,A1,A2,A3,A4,A5,A6,A7,A8,A9,Aa,Ab,Ac,Ad,Ae,Af,Ag,Ah,Ai,Aj,Ak,Al,Am,An,Ao,Ap,Aq,Ar,As,At,Au,Av,Aw,Ax,Ay,Az,C0,C1,C2,C3,C4,C5,C6,C7,C8,C9,Ca,Cb,Cc,Cd,Ce,Cf,Cg,Ch,Ci,Cj],[]⟩ w := by
  rw [nbrest3_eq]
  have ht : X.data.toList.length = X.size := rfl
  by_cases h0 : X.size = 0
  · have HN := hidMk (numD_no (sg := sg) (ds := X.data.toList) (by omega))
    clear ht
    go_wp2_with fail
    refine bodyPost_ret (v := .tuple #[.int .i64 0,.bool false]) (by simp [results,Tryz.results61,go_sem]) rfl ⟨HB.out,0,false,rfl,?_⟩
    rw [HR.out,HN.out]
    rfl
  by_cases h3 : 3 < X.size
  · have HN := hidMk (numD_no (sg := sg) (ds := X.data.toList) (by omega))
    clear ht
    go_wp2_with fail
    refine bodyPost_ret (v := .tuple #[.int .i64 0,.bool false]) (by simp [results,Tryz.results61,go_sem]) rfl ⟨HB.out,0,false,rfl,?_⟩
    rw [HR.out,HN.out]
    rfl
  have h0' : 0 < X.size := by omega
  have HX := hidMk (show 1 ≤ X.size ∧ X.size ≤ 3 by omega)
  have hc := byte_at X 0 h0'
  obtain ⟨c,hcx⟩ : ∃ c,X[0] = c := ⟨_,rfl⟩
  rw [hcx] at hc
  have hh : X.data.toList.head? = some c := by rw [List.head?_eq_getElem?,hc]
  have HH := hidMk hh
  clear hh hc
  have hi1 : (1 : Int) ≤ (X.size : Int) := by omega
  have hi3 : (X.size : Int) ≤ 3 := by omega
  by_cases h48 : c.toNat = 48
  · have h48' : (c.toNat : Int) = 48 := by omega
    have hc48 : c = 48 := UInt8.toNat_inj.1 h48
    by_cases h1 : 1 < X.size
    · have h1' : (1 : Int) < (X.size : Int) := by omega
      have HN := hidMk (numD_no (sg := sg) (ds := X.data.toList) (.inr (.inr ⟨by rw [HH.out,hc48],.inl (by omega)⟩)))
      clear ht hc48
      go_wp2_with fail
      refine bodyPost_ret (v := .tuple #[.int .i64 0,.bool false]) (by simp [results,Tryz.results61,go_sem]) rfl ⟨HB.out,0,false,rfl,?_⟩
      rw [HR.out,HN.out]
      rfl
    · have h1' : ¬ (1 : Int) < (X.size : Int) := by omega
      rcases hsg with rfl | rfl
      · have HN := hidMk (numD_go (sg := 1) (ds := X.data.toList) (by rintro (h | h | ⟨_,h | h⟩) <;> omega))
        clear ht hc48
        go_wp2_with fail
        exact nbpart4 HX (.inl rfl) HB (hidMk (HR.out.trans HN.out))
      · have HN := hidMk (numD_no (sg := -1) (ds := X.data.toList) (.inr (.inr ⟨by rw [HH.out,hc48],.inr (by decide)⟩)))
        clear ht hc48
        go_wp2_with fail
        refine bodyPost_ret (v := .tuple #[.int .i64 0,.bool false]) (by simp [results,Tryz.results61,go_sem]) rfl ⟨HB.out,0,false,rfl,?_⟩
        rw [HR.out,HN.out]
        rfl
  · have h48' : ¬ (c.toNat : Int) = 48 := by omega
    have HN := hidMk (numD_go (sg := sg) (ds := X.data.toList) (by
      rintro (h | h | ⟨h,_⟩)
      · omega
      · omega
      · rw [HH.out] at h
        injection h with h
        exact h48 (by rw [h]; rfl)))
    have HSG := hidMk hsg
    clear ht hsg
    go_wp2_with fail
    exact nbpart4 HX HSG.out HB (hidMk (HR.out.trans HN.out))
def numR (w : List UInt8) : Option Int := match w with
  | 45 :: r => numD (-1) r
  | _ => numD 1 w
theorem numR_minus {w r : List UInt8} (h : w = 45 :: r) : numR w = numD (-1) r := by rw [h]; rfl
theorem numR_plain {w : List UInt8} (h : w.head? ≠ some 45) : numR w = numD 1 w := by
  unfold numR
  split
  · exact absurd rfl h
  · rfl
set_option maxHeartbeats 2000000 in
set_option maxRecDepth 1000000 in
theorem number_any (X : ByteArray) (hX : X.size ≤ 1000) (w : World) : Calls Tryz.prog 61 #[.string X] w (NumQ (numR X.data.toList) w) := by
  have ht : X.data.toList.length = X.size := rfl
  go_enter Tryz.func61,Tryz.ntmps61
  show Code.wp Tryz.prog nbbody (QNB (numR X.data.toList) w) _ _
  rw [nbbody_eq]
  go_wp2_with fail
  rw [nbrest1_eq]
  go_wp2_with fail
  rw [nbrest2_eq]
  by_cases h0 : X.size = 0
  · have HN := hidMk (numR_plain (w := X.data.toList) (by rw [show X.data.toList = [] from List.length_eq_zero_iff.1 (by omega)]; simp))
    clear ht
    go_wp2_with fail
    exact nbpart3 hX (.inl rfl) (hidMk (Below.refl _ _)) HN
  have h0' : 0 < X.size := by omega
  have h0i : (0 : Int) < (X.size : Int) := by omega
  have hc := byte_at X 0 h0'
  obtain ⟨c,hcx⟩ : ∃ c,X[0] = c := ⟨_,rfl⟩
  rw [hcx] at hc
  have hh : X.data.toList.head? = some c := by rw [List.head?_eq_getElem?,hc]
  have HH := hidMk hh
  clear hh hc
  by_cases h45 : c.toNat = 45
  · have h45' : (c.toNat : Int) = 45 := by omega
    have hc45 : c = 45 := UInt8.toNat_inj.1 h45
    obtain ⟨Y,hYe⟩ : ∃ Y : ByteArray,X.extract 1 X.size = Y := ⟨_,rfl⟩
    have hY : X.data.toList = 45 :: Y.data.toList := by
      have h1 : Y.data.toList = X.data.toList.drop 1 := by rw [← hYe]; simp [ByteArray.data_extract,List.take_of_length_le,ht]
      rw [h1]
      have := HH.out
      cases hq : X.data.toList with
      | nil => rw [hq] at this; cases this
      | cons x l => rw [hq] at this; injection this with this; rw [this,hc45]; rfl
    have HYE := hidMk hYe
    clear hYe
    have HN := hidMk (numR_minus hY)
    have HYZ := hidMk (show Y.size ≤ 1000 by have h1 := congrArg List.length hY; have h2 : Y.data.toList.length = Y.size := rfl; rw [List.length_cons] at h1; omega)
    clear ht hc45
    have HY := hidMk hY
    clear hY
    go_wp2_with fail
    refine region_via (R := fun a_ e_ a' w' => e_ = .normal ∧ ∃ (v15 v16 : Value),a' = ((((a_.put (some 15) v15).put (some 16) v16).put (some 4) (.int .i64 (-1))).put (some 0) (.string (X.extract 1 X.size))) ∧ Below w.heap.size w w') ?_ ?_
    rotate_left
    · rintro e_ a' w' ⟨rfl,v15,v16,rfl,h1⟩
      simp only [Act.put,aT,aZ,aS]
      have HB' := hidMk h1
      clear h1
      rw [HYE.out]
      go_wp2_with fail
      exact nbpart3 HYZ.out (.inr rfl) HB' HN
    have h0x : (1 : Int) ≤ (X.size : Int) := by omega
    have hB : Below w.heap.size w w.drew := (Below.refl _ _).drew
    refine wp_region_held_drew (S := fun _ => True) (by kernel_rfl) trivial (fun _ => ?_)
    generalize w.drew = wd at hB ⊢
    refine wT (i := 0) (oi := ⟨some 15,.move (.tmp 0),9,"text.go:42",#[],none⟩) (v := ?_) rfl (.inl ⟨by rfl,?_⟩) ?_
    rotate_left
    · (intro w' hSw; (try dsimp only at hSw); go_simp <;> with_reducible rfl)
    (try simp only [Act.put,aT,aZ,aS])
    refine wT (i := 1) (oi := ⟨some 16,.slice 9 (.tmp 15) (some (.const (.int .i64 1))) none none,9,"text.go:42",#[⟨0,.data⟩],none⟩) (v := ?_) rfl (.inl ⟨by rfl,?_⟩) ?_
    rotate_left
    · (intro w' hSw; (try dsimp only at hSw); have hx1 : (1 : Int) ≤ (X.size : Int) := h0x; go_simp <;> with_reducible rfl)
    (try simp only [Act.put,aT,aZ,aS])
    refine wpAnyH_ready (rs := [2]) (by kernel_rfl) (by simp) ?_
    refine AllReadyH.cons (o := ⟨some 4,.assign (.const (.int .i64 (-1))),3,"text.go:42",#[⟨0,.textOnly .lateStores⟩,⟨1,.textOnly .lateStoresUnsure⟩],none⟩) rfl (fun K hK => ?_) ?_
    · go_simp
      refine hK.out _ _ trivial (fun _ => ?_)
      clear hK K
      (try simp only [Act.put,aT,aZ,aS])
      refine wpAnyH_ready (rs := [3]) (by kernel_rfl) (by simp) ?_
      refine AllReadyH.cons (o := ⟨some 0,.assign (.tmp 16),9,"text.go:42",#[⟨1,.data⟩,⟨2,.chain⟩,⟨0,.phase⟩,⟨1,.phase⟩,⟨2,.phase⟩],none⟩) rfl (fun K hK => ?_) ?_
      · go_simp
        refine hK.out _ _ trivial (fun _ => ?_)
        clear hK K
        (try simp only [Act.put,aT,aZ,aS])
        refine wpAnyH_done (by kernel_rfl) ?_ _
        exact ⟨rfl,_,_,rfl,hB⟩
      exact AllReadyH.nil
    exact AllReadyH.nil
  · have h45' : ¬ (c.toNat : Int) = 45 := by omega
    have HN := hidMk (numR_plain (w := X.data.toList) (by rw [HH.out]; intro h; injection h with h; exact h45 (by rw [h]; rfl)))
    clear ht
    go_wp2_with fail
    exact nbpart3 hX (.inl rfl) (hidMk (Below.refl _ _)) HN
end Go.Proofs.YtljefjngmembkaaGreatDoor
namespace Go.Proofs.YtljefjngmembkaaGreatDoor
set_option linter.all false
open Go.RowKit Go.Lib Go.Tx
theorem digB {d : Nat} (h : d < 10) : 48 ≤ (UInt8.ofNat (48 + d)).toNat ∧ (UInt8.ofNat (48 + d)).toNat ≤ 57 := by rw [dig_of h]; omega
theorem dec1 {u : Nat} (h : u < 10) : decDigits u = [UInt8.ofNat (48 + u)] := by rw [decDigits,dif_pos h]
theorem dec2 {u : Nat} (h1 : 10 ≤ u) (h : u < 100) : decDigits u = [UInt8.ofNat (48 + u / 10),UInt8.ofNat (48 + u % 10)] := by
  rw [decDigits,dif_neg (by omega),dec1 (by omega)]
  rfl
theorem dec3 {u : Nat} (h1 : 100 ≤ u) (h : u < 1000) : decDigits u = [UInt8.ofNat (48 + u / 10 / 10),UInt8.ofNat (48 + u / 10 % 10),UInt8.ofNat (48 + u % 10)] := by
  rw [decDigits,dif_neg (by omega),dec2 (by omega) (by omega)]
  rfl
theorem numL_dig {acc : Int} {d : Nat} (h : d < 10) (r : List UInt8) : numL acc (UInt8.ofNat (48 + d) :: r) = numL (10 * acc + d) r := by
  rw [numL,if_pos (digB h),dig_of h]
  congr 1
  push_cast
  omega
theorem numL_dec {u : Nat} (h : u < 1000) : numL 0 (decDigits u) = some (u : Int) := by
  by_cases h1 : u < 10
  · rw [dec1 h1,numL_dig h1]
    simp [numL]
  · by_cases h2 : u < 100
    · rw [dec2 (by omega) h2,numL_dig (by omega),numL_dig (by omega)]
      simp only [numL,Option.some.injEq]
      omega
    · rw [dec3 (by omega) h,numL_dig (by omega),numL_dig (by omega),numL_dig (by omega)]
      simp only [numL,Option.some.injEq]
      omega
theorem dig_ne {d : Nat} (h : d < 10) (h0 : d ≠ 0) : UInt8.ofNat (48 + d) ≠ 48 := fun e => by
  have := congrArg UInt8.toNat e
  rw [dig_of h] at this
  have h48 : (48 : UInt8).toNat = 48 := rfl
  omega
theorem numD_dec {u : Nat} (h : u < 1000) (sg : Int) (h0 : u = 0 → ¬ sg < 0) : numD sg (decDigits u) = some (sg * u) := by
  rw [numD_go,numL_dec h]
  · rfl
  · by_cases h1 : u < 10
    · rw [dec1 h1]
      rintro (h | h | ⟨h,h2 | h2⟩)
      · simp at h
      · simp at h
      · simp at h2
      · simp only [List.head?_cons,Option.some.injEq] at h
        by_cases hu : u = 0
        · exact h0 hu h2
        · exact dig_ne h1 hu h
    · by_cases h2 : u < 100
      · rw [dec2 (by omega) h2]
        rintro (h | h | ⟨h,_⟩)
        · simp at h
        · simp at h
        · simp only [List.head?_cons,Option.some.injEq] at h
          exact dig_ne (by omega) (by omega) h
      · rw [dec3 (by omega) h]
        rintro (h | h | ⟨h,_⟩)
        · simp at h
        · simp at h
        · simp only [List.head?_cons,Option.some.injEq] at h
          exact dig_ne (by omega) (by omega) h
theorem numR_itoa {n : Int} (h : -999 ≤ n ∧ n ≤ 999) : numR (itoa n) = some n := by
  unfold itoa
  by_cases hn : n < 0
  · rw [if_pos hn,numR_minus rfl,numD_dec (by omega) _ (by omega)]
    congr 1
    omega
  · rw [if_neg hn,numR_plain,numD_dec (by omega) _ (by omega)]
    · congr 1
      omega
    · intro e
      have hm : (45 : UInt8) ∈ decDigits n.toNat := by
        cases hq : decDigits n.toNat with
        | nil => rw [hq] at e; cases e
        | cons x l => rw [hq] at e; injection e with e; rw [e]; exact List.mem_cons_self
      have := dec_dig _ _ hm
      unfold Dig at this
      have h45 : (45 : UInt8).toNat = 45 := rfl
      omega
theorem byte_dig {c : UInt8} (h : 48 ≤ c.toNat ∧ c.toNat ≤ 57) : ∃ d : Nat,d < 10 ∧ c = UInt8.ofNat (48 + d) := by
  refine ⟨c.toNat - 48,by omega,UInt8.toNat_inj.1 ?_⟩
  rw [dig_of (by omega)]
  omega
theorem numL_all : ∀ {acc : Int} {l : List UInt8} {n : Int},numL acc l = some n → ∀ c ∈ l,48 ≤ c.toNat ∧ c.toNat ≤ 57
  | acc,[],n,h => by simp
  | acc,c :: l,n,h => by
    rw [numL] at h
    split at h
    · rename_i hc
      intro x hx
      rcases List.mem_cons.1 hx with rfl | hx
      · exact hc
      · exact numL_all h x hx
    · cases h
theorem numD_some {sg : Int} {l : List UInt8} {n : Int} (h : numD sg l = some n) : ∃ u : Nat,u < 1000 ∧ l = decDigits u ∧ n = sg * u ∧ (u = 0 → ¬ sg < 0) := by
  unfold numD at h
  split at h
  · cases h
  · rename_i hc
    obtain ⟨m,hm,rfl⟩ := Option.map_eq_some_iff.1 h
    have hall := numL_all hm
    match l,hc,hm,hall with
    | [],hc,_,_ => exact absurd (.inl (by simp)) hc
    | [a],hc,hm,hall =>
      obtain ⟨d,hd,rfl⟩ := byte_dig (hall a List.mem_cons_self)
      rw [numL_dig hd,numL] at hm
      injection hm with hm
      refine ⟨d,by omega,(dec1 hd).symm,by rw [← hm]; congr 1; omega,fun h0 hs => hc (.inr (.inr ⟨?_,.inr hs⟩))⟩
      subst h0
      rfl
    | [a,b],hc,hm,hall =>
      obtain ⟨d,hd,rfl⟩ := byte_dig (hall a (by simp))
      obtain ⟨f,hf,rfl⟩ := byte_dig (hall b (by simp))
      have hd0 : d ≠ 0 := fun h0 => hc (.inr (.inr ⟨by subst h0; rfl,.inl (by simp)⟩))
      rw [numL_dig hd,numL_dig hf,numL] at hm
      injection hm with hm
      refine ⟨10 * d + f,by omega,?_,by rw [← hm]; congr 1; push_cast; omega,fun h0 => by omega⟩
      rw [dec2 (by omega) (by omega),show (10 * d + f) / 10 = d by omega,show (10 * d + f) % 10 = f by omega]
    | [a,b,c],hc,hm,hall =>
      obtain ⟨d,hd,rfl⟩ := byte_dig (hall a (by simp))
      obtain ⟨f,hf,rfl⟩ := byte_dig (hall b (by simp))
      obtain ⟨g,hg,rfl⟩ := byte_dig (hall c (by simp))
      have hd0 : d ≠ 0 := fun h0 => hc (.inr (.inr ⟨by subst h0; rfl,.inl (by simp)⟩))
      rw [numL_dig hd,numL_dig hf,numL_dig hg,numL] at hm
      injection hm with hm
      refine ⟨100 * d + 10 * f + g,by omega,?_,by rw [← hm]; congr 1; push_cast; omega,fun h0 => by omega⟩
      rw [dec3 (by omega) (by omega),show (100 * d + 10 * f + g) / 10 / 10 = d by omega,show (100 * d + 10 * f + g) / 10 % 10 = f by omega,show (100 * d + 10 * f + g) % 10 = g by omega]
    | a :: b :: c :: d :: r,hc,_,_ => exact absurd (.inr (.inl (by simp))) hc
theorem numR_some {w : List UInt8} {n : Int} (h : numR w = some n) : w = itoa n ∧ -999 ≤ n ∧ n ≤ 999 := by
  unfold numR at h
  split at h
  · rename_i r
    obtain ⟨u,hu,rfl,rfl,h0⟩ := numD_some h
    have hu0 : u ≠ 0 := fun e => h0 e (by decide)
    refine ⟨?_,by omega,by omega⟩
    unfold itoa
    rw [if_pos (by omega)]
    congr 2
    omega
  · obtain ⟨u,hu,rfl,rfl,_⟩ := numD_some h
    refine ⟨?_,by omega,by omega⟩
    unfold itoa
    rw [if_neg (by omega)]
    congr 1
    omega
theorem numR_eq (w : List UInt8) : numR w = rdN (-999) 999 w := by
  cases h : numR w with
  | some n =>
    obtain ⟨rfl,hb⟩ := numR_some h
    rw [rdN_itoa hb (by omega)]
  | none =>
    cases h2 : rdN (-999) 999 w with
    | none => rfl
    | some n =>
      obtain ⟨rfl,hb⟩ := rdN_some h2
      rw [numR_itoa hb] at h
      cases h
end Go.Proofs.YtljefjngmembkaaGreatDoor
namespace Go.Proofs.YtljefjngmembkaaGreatDoor
set_option linter.all false
open Go.RowKit Go.Lib
theorem infoStr : (Tryz.prog.info? 9).map (fun i => (i.zero,i.size,i.bytes)) = some (some (.string ⟨#[]⟩),1,16) := by kernel_rfl
def SpI (X : List UInt8) (c : UInt8) (i fr : Nat) (l : List ByteArray) : Prop := l.length ≤ i ∧
  ((i ≤ X.length ∧ fr ≤ i ∧ split X [c] = bytes l ++ split (X.drop fr) [c] ∧ c ∉ (X.drop fr).take (i - fr)) ∨ (i = X.length + 1 ∧ split X [c] = bytes l))
theorem SpI.begin (X : List UInt8) (c : UInt8) : SpI X c 0 0 [] := ⟨Nat.le_refl _,.inl ⟨Nat.zero_le _,Nat.le_refl _,rfl,by simp⟩⟩
theorem ext_list (X : ByteArray) (a b : Nat) : (X.extract a b).data.toList = (X.data.toList.drop a).take (b - a) := by
  simp [ByteArray.data_extract,List.extract_eq_drop_take]
theorem bytes_snoc (l : List ByteArray) (x : ByteArray) : bytes (l ++ [x]) = bytes l ++ [x.data.toList] := by simp
theorem SpI.stop {X : ByteArray} {c : UInt8} {fr : Nat} {l : List ByteArray} (h : SpI X.data.toList c X.size fr l) : SpI X.data.toList c (X.size + 1) (X.size + 1) (l ++ [X.extract fr X.size]) := by
  obtain ⟨hl,⟨h1,h2,h3,h4⟩ | ⟨h1,_⟩⟩ := h
  · refine ⟨by rw [List.length_append,List.length_singleton]; omega,.inr ⟨rfl,?_⟩⟩
    have e : (X.data.toList.drop fr).take (X.size - fr) = X.data.toList.drop fr := List.take_of_length_le (by rw [List.length_drop]; exact Nat.le_refl _)
    rw [e] at h4
    rw [h3,bytes_snoc,ext_list,e,Tx.split_no h4]
  · have : X.data.toList.length = X.size := rfl
    omega
theorem SpI.part {X : ByteArray} {c : UInt8} {i fr : Nat} {l : List ByteArray} (h : SpI X.data.toList c i fr l) (hi : i < X.size) (hc : X.data.toList[i]? = some c) : SpI X.data.toList c (i + 1) (i + 1) (l ++ [X.extract fr i]) := by
  have hz : X.data.toList.length = X.size := rfl
  obtain ⟨hl,⟨h1,h2,h3,h4⟩ | ⟨h1,_⟩⟩ := h
  · refine ⟨by rw [List.length_append,List.length_singleton]; omega,.inl ⟨by omega,Nat.le_refl _,?_,by simp⟩⟩
    have hd : X.data.toList.drop fr = (X.data.toList.drop fr).take (i - fr) ++ c :: X.data.toList.drop (i + 1) := by
      have h5 : (X.data.toList.drop fr).drop (i - fr) = c :: X.data.toList.drop (i + 1) := by
        rw [List.drop_drop,show fr + (i - fr) = i by omega]
        obtain ⟨hlt,he⟩ := List.getElem?_eq_some_iff.1 hc
        rw [List.drop_eq_getElem_cons hlt,he]
      rw [← h5,List.take_append_drop]
    rw [h3,bytes_snoc,ext_list,List.append_assoc]
    congr 1
    conv => lhs; rw [hd]
    rw [Tx.split_at h4]
    rfl
  · omega
theorem SpI.next {X : ByteArray} {c d : UInt8} {i fr : Nat} {l : List ByteArray} (h : SpI X.data.toList c i fr l) (hi : i < X.size) (hd : X.data.toList[i]? = some d) (hc : d ≠ c) : SpI X.data.toList c (i + 1) fr l := by
  have hz : X.data.toList.length = X.size := rfl
  obtain ⟨hl,⟨h1,h2,h3,h4⟩ | ⟨h1,_⟩⟩ := h
  · refine ⟨by omega,.inl ⟨by omega,by omega,h3,?_⟩⟩
    rw [show i + 1 - fr = (i - fr) + 1 by omega,List.take_add_one,List.getElem?_drop,show fr + (i - fr) = i by omega,hd]
    simp only [Option.toList_some,List.mem_append,List.mem_singleton,not_or]
    exact ⟨h4,fun e => hc e.symm⟩
  · omega
theorem str_row {w : World} {B : Nat} {v : Value} {l : List ByteArray} (h : w.ownsRow B 9 1 v l.length (l.map Value.string)) (h0 : l.length ≠ 0) : ∃ q cp,v = .slice (some ⟨q,0,none⟩) l.length cp ∧ B ≤ q ∧ l.length ≤ cp ∧ (∀ k x,l[k]? = some x → w.cell? ⟨q,k,none⟩ = some (.string x)) ∧ q < w.heap.size := by
  rcases h.2 with ⟨_,h⟩ | ⟨g,cap,cur,rfl,hb,hg,hnc,hcm,hcs,htk⟩
  · exact absurd h h0
  · refine ⟨g,cap,rfl,hb,hnc,fun k x hk => ?_,(Array.getElem?_eq_some_iff.1 hg).1⟩
    have hkl := (List.getElem?_eq_some_iff.1 hk).1
    rw [cell_of_row w g k cur 9 (0,0) hg,← Array.getElem?_toList]
    have h2 : (cur.toList.take (l.length * 1))[k]? = some (.string x) := by rw [htk,List.getElem?_map,hk]; rfl
    rw [List.getElem?_take_of_lt (by omega)] at h2
    exact h2
def RSQ (X : ByteArray) (c : UInt8) (w0 : World) (e : Ending) (w' : World) : Prop := ∃ (l : List ByteArray) (m q cp : Nat),l.length = m + 1 ∧ bytes l = split X.data.toList [c] ∧ (∀ x ∈ l,x.size ≤ X.size) ∧ l.length ≤ 2000 ∧ m + 1 ≤ cp ∧ e = .returned (.slice (some ⟨q,0,none⟩) (m + 1) cp) ∧ Ss w' w'.heap.size q 0 l ∧ w0.heap.size ≤ q ∧ Below w0.heap.size w0 w'
def SPI (X : ByteArray) (c : UInt8) (w0 : World) (a_ : Act) (wr : World) : Prop := ∃ (u2 u3 u4 u8 u9 A0 A1 A2 A3 A4 A5 A6 A7 A8 A9 Aa Ab Ac Ad Ae Af Ag Ah Ai Aj Ak Al Am An Ao : Value) (i fr : Nat) (l : List ByteArray) (v : Value),Hid (SpI X.data.toList c i fr l) ∧ Hid (Below w0.heap.size w0 wr) ∧ Hid (wr.ownsRow w0.heap.size 9 1 v l.length (l.map Value.string)) ∧ Hid (∀ x ∈ l,x.size ≤ X.size) ∧ a_ = ⟨#[(.string X),(.int .u8 (c.toNat : Int)),u2,u3,u4,v,(.int .i64 fr),(.int .i64 i),u8,u9,A0,A1,A2,A3,A4,A5,A6,A7,A8,A9,Aa,Ab,Ac,Ad,Ae,Af,Ag,Ah,Ai,Aj,Ak,Al,Am,An,Ao],[]⟩
set_option maxHeartbeats 2000000 in
set_option maxRecDepth 1000000 in
theorem rsplit_any (X : ByteArray) (c : UInt8) (hX : X.size ≤ 1000) (w0 : World) :
    Calls Tryz.prog 36 #[.string X,.int .u8 (c.toNat : Int)] w0 (RSQ X c w0) := by
  obtain ⟨ti,ti1,ti2,ti3,ti4⟩ := info_parts infoStr
  have Hi := hidMk ti1
  have Hz := hidMk ti2
  have Hs := hidMk ti3
  have Hb := hidMk ti4
  clear ti1 ti2 ti3 ti4
  have hz : X.data.toList.length = X.size := rfl
  have hcb := c.toNat_lt
  go_enter Tryz.func36,Tryz.ntmps36
  have HN0 : Hid (((0 : Nat) : Int) = 0) := hidMk rfl
  go_wp2_with fail
  refine wp_loop (SPI X c w0) (fun a_ _ => X.size + 1 - (RowKit.intOf (a_.tmps.getD 7 undef)).toNat) ?_ ?_
  · unfold SPI
    exact ⟨_,_,_,_,_,_,_,_,_,_,_,_,_,_,_,_,_,_,_,_,_,_,_,_,_,_,_,_,_,_,0,0,[],_,hidMk (SpI.begin _ _),hidMk (Below.refl _ _),hidMk ⟨rfl,.inl ⟨rfl,rfl⟩⟩,hidMk (by simp),rfl⟩
  · intro a_ wr hx
    unfold SPI at hx
    obtain ⟨u2,hx⟩ := hx
    obtain ⟨u3,hx⟩ := hx
    obtain ⟨u4,hx⟩ := hx
    obtain ⟨u8,hx⟩ := hx
    obtain ⟨u9,hx⟩ := hx
    obtain ⟨A0,hx⟩ := hx
    obtain ⟨A1,hx⟩ := hx
    obtain ⟨A2,hx⟩ := hx
    obtain ⟨A3,hx⟩ := hx
    obtain ⟨A4,hx⟩ := hx
    obtain ⟨A5,hx⟩ := hx
    obtain ⟨A6,hx⟩ := hx
    obtain ⟨A7,hx⟩ := hx
    obtain ⟨A8,hx⟩ := hx
    obtain ⟨A9,hx⟩ := hx
    obtain ⟨Aa,hx⟩ := hx
    obtain ⟨Ab,hx⟩ := hx
    obtain ⟨Ac,hx⟩ := hx
    obtain ⟨Ad,hx⟩ := hx
    obtain ⟨Ae,hx⟩ := hx
    obtain ⟨Af,hx⟩ := hx
    obtain ⟨Ag,hx⟩ := hx
    obtain ⟨Ah,hx⟩ := hx
    obtain ⟨Ai,hx⟩ := hx
    obtain ⟨Aj,hx⟩ := hx
    obtain ⟨Ak,hx⟩ := hx
    obtain ⟨Al,hx⟩ := hx
    obtain ⟨Am,hx⟩ := hx
    obtain ⟨An,hx⟩ := hx
    obtain ⟨Ao,hx⟩ := hx
    obtain ⟨i,fr,l,v,HI,HB,HO,HZ,ha⟩ := hx
    subst ha
    have hil : i ≤ X.size + 1 ∧ l.length ≤ i ∧ (i ≤ X.size → fr ≤ i) := by
      obtain ⟨h1,⟨h2,h3,_⟩ | ⟨h2,_⟩⟩ := HI.out
      · exact ⟨by omega,h1,fun _ => h3⟩
      · exact ⟨by omega,h1,fun h => by omega⟩
    obtain ⟨hi1,hi2,hi3⟩ := hil
    have HWY := hidMk (show IntKind.i64.wrap ((i : Int) + 1) = (i : Int) + 1 from IntWalk.i64_in _ (by omega))
    have e1 : ((i + 1 : Nat) : Int) = (i : Int) + 1 := by push_cast; rfl
    have hsz := HB.out.size
    by_cases hlt : i ≤ X.size
    · have hlt' : (i : Int) ≤ (X.size : Int) := by omega
      have hfr := hi3 hlt
      have hfr' : (fr : Int) ≤ (i : Int) := by omega
      have hfr0 : (0 : Int) ≤ (fr : Int) := by omega
      by_cases hn : i = X.size
      · subst hn
        have wy := HWY.out
        go_wp2_with (at_builtin; refine wpList_append_own_at _ rfl (.tmp 25) (.tmp 30) 37 rfl w0.heap.size 9 ti (.string ⟨#[]⟩) 1 16 Tryz.underlying37 Hi.out Hz.out Hs.out Hb.out rfl (by decide) v l.length (l.map Value.string) rfl (HO.out.alloc _) ⟨wr.heap.size,0,none⟩ 1 1 [.string (X.extract fr X.size)] rfl rfl (fun j y hy => by rw [Addr.add_mid,Nat.zero_add]; exact (Bk.new wr 9 #[.string (X.extract fr X.size)]).at_ j y (by simpa using hy)) (by intro y hy; simp at hy; subst hy; rfl) (by unfold maxLen; omega) (by omega) (by simp; omega) ?_; intro v' w3 own' hg _ at_)
        have HO3 := hidMk own'
        have HG3 := hidMk hg
        clear own' hg at_ hi2 hsz
        refine ⟨?_,by first | (simp [RowKit.intOf]; done) | (simp [RowKit.intOf]; omega)⟩
        unfold SPI
        refine ⟨_,_,_,_,_,_,_,_,_,_,_,_,_,_,_,_,_,_,_,_,_,_,_,_,_,_,_,_,_,_,X.size + 1,X.size + 1,l ++ [X.extract fr X.size],v',hidMk (HI.out.stop),hidMk ?_,hidMk ?_,hidMk ?_,by rw [e1]⟩
        · exact ((HB.out.alloc HB.out.size _)).grown HG3.out (by have := HB.out.size; simp; omega) fun q e => (own_block' HO.out q e).1
        · rw [List.map_append,List.length_append]
          exact HO3.out
        · intro x hx
          rcases List.mem_append.1 hx with hx | hx
          · exact HZ.out x hx
          · rw [List.mem_singleton.1 hx]
            first | (rw [ByteArray.size_extract]; done) | (rw [ByteArray.size_extract]; omega)
      · have hlt2 : i < X.size := by omega
        have hne : ¬ (i : Int) = (X.size : Int) := by omega
        have hc := byte_at X i hlt2
        obtain ⟨d,hcx⟩ : ∃ d,X[i] = d := ⟨_,rfl⟩
        rw [hcx] at hc
        have HC := hidMk hc
        clear hc
        by_cases hd : d = c
        · subst hd
          have wy := HWY.out
          go_wp2_with (at_builtin; refine wpList_append_own_at _ rfl (.tmp 25) (.tmp 30) 37 rfl w0.heap.size 9 ti (.string ⟨#[]⟩) 1 16 Tryz.underlying37 Hi.out Hz.out Hs.out Hb.out rfl (by decide) v l.length (l.map Value.string) rfl (HO.out.alloc _) ⟨wr.heap.size,0,none⟩ 1 1 [.string (X.extract fr i)] rfl rfl (fun j y hy => by rw [Addr.add_mid,Nat.zero_add]; exact (Bk.new wr 9 #[.string (X.extract fr i)]).at_ j y (by simpa using hy)) (by intro y hy; simp at hy; subst hy; rfl) (by unfold maxLen; omega) (by omega) (by simp; omega) ?_; intro v' w3 own' hg _ at_)
          have HO3 := hidMk own'
          have HG3 := hidMk hg
          clear own' hg at_ hi2 hsz
          refine ⟨?_,by first | (simp [RowKit.intOf]; done) | (simp [RowKit.intOf]; omega)⟩
          unfold SPI
          refine ⟨_,_,_,_,_,_,_,_,_,_,_,_,_,_,_,_,_,_,_,_,_,_,_,_,_,_,_,_,_,_,i + 1,i + 1,l ++ [X.extract fr i],v',hidMk (HI.out.part hlt2 HC.out),hidMk ?_,hidMk ?_,hidMk ?_,by rw [e1]⟩
          · exact ((HB.out.alloc HB.out.size _)).grown HG3.out (by have := HB.out.size; simp; omega) fun q e => (own_block' HO.out q e).1
          · rw [List.map_append,List.length_append]
            exact HO3.out
          · intro x hx
            rcases List.mem_append.1 hx with hx | hx
            · exact HZ.out x hx
            · rw [List.mem_singleton.1 hx]
              simp [ByteArray.size_extract]
              try omega
        · have hd' : ((d.toNat : Int) == (c.toNat : Int)) = false := by
            rw [beq_eq_false_iff_ne]
            exact fun h => hd (UInt8.toNat_inj.1 (by omega))
          have hne' : ((i : Int) == (X.size : Int)) = false := by
            rw [beq_eq_false_iff_ne]
            exact hne
          have wy := HWY.out
          go_wp2_with fail
          refine ⟨?_,by first | (simp [RowKit.intOf]; done) | (simp [RowKit.intOf]; omega)⟩
          unfold SPI
          exact ⟨_,_,_,_,_,_,_,_,_,_,_,_,_,_,_,_,_,_,_,_,_,_,_,_,_,_,_,_,_,_,i + 1,fr,l,v,hidMk (HI.out.next hlt2 HC.out hd),HB,HO,HZ,by rw [e1]⟩
    · obtain rfl : i = X.size + 1 := by omega
      have hlt' : ¬ ((X.size + 1 : Nat) : Int) ≤ (X.size : Int) := by omega
      have hend : split X.data.toList [c] = bytes l := by
        obtain ⟨_,⟨h2,_⟩ | ⟨_,h3⟩⟩ := HI.out
        · omega
        · exact h3
      have hpos : l.length ≠ 0 := fun h => by
        rw [List.length_eq_zero_iff.1 h] at hend
        exact Tx.split_ne _ _ hend
      obtain ⟨m,hm⟩ : ∃ m,l.length = m + 1 := ⟨l.length - 1,by omega⟩
      obtain ⟨q,cp,rfl,hq,hcp,hcell⟩ := str_row HO.out hpos
      have HE := hidMk hend
      have HM := hidMk hm
      have HCL := hidMk hcell
      have HQ := hidMk (And.intro hq hcp)
      clear hend hcell hq hcp hpos hm
      go_wp2_with fail
      refine bodyPost_ret (v := .slice (some ⟨q,0,none⟩) l.length cp) (by simp [results,Tryz.results36,go_sem]) rfl ⟨l,m,q,cp,HM.out,HE.out.symm,HZ.out,by omega,by have := HQ.out.2; have := HM.out; omega,by rw [HM.out],⟨?_,fun k x hx => ?_⟩,HQ.out.1,HB.out⟩
      · obtain ⟨_,h⟩ := HCL.out
        exact h
      · rw [Nat.zero_add]
        exact HCL.out.1 k x hx
end Go.Proofs.YtljefjngmembkaaGreatDoor
namespace Go.Proofs.YtljefjngmembkaaGreatDoor
set_option linter.all false
open Go.RowKit Go.Lib
def fl (q : List R2 × List Int) : List Int := (q.1.flatMap fun s => [s.1,s.2]) ++ q.2
def stepF (r i : Nat) (p : List UInt8) : Option (List Int) := if i < r then (Tx.rdS 58 (-999) 999 p).map (fun s => [s.1,s.2]) else (Tx.rdN (-999) 999 p).map fun n => [n]
def FarF (r : Nat) (tl : List (List UInt8)) (i : Nat) (xs : List Int) : Prop := (rdParts r tl).map fl = (rdParts (r - i) (tl.drop i)).map fun q => xs ++ fl q
theorem FarF.begin (r : Nat) (tl : List (List UInt8)) : FarF r tl 0 [] := by unfold FarF; simp
theorem rdParts0 {ps : List (List UInt8)} {q : List R2 × List Int} (h : rdParts 0 ps = some q) : q.1 = [] := by
  obtain ⟨ss,ns⟩ := q
  exact List.length_eq_zero_iff.1 (rdParts_some 0 ps ss ns h (Nat.zero_le _)).2.1
theorem FarF.step {r i : Nat} {tl : List (List UInt8)} {xs : List Int} {p : List UInt8} (h : FarF r tl i xs) (hp : tl[i]? = some p) :
    (stepF r i p = none → (rdParts r tl).map fl = none) ∧ ∀ ys,stepF r i p = some ys → FarF r tl (i + 1) (xs ++ ys) := by
  obtain ⟨hl,he⟩ := List.getElem?_eq_some_iff.1 hp
  unfold FarF at h ⊢
  unfold stepF
  rw [h,List.drop_eq_getElem_cons hl,he]
  by_cases hi : i < r
  · rw [if_pos hi,show r - i = (r - (i + 1)) + 1 by omega,rdParts]
    cases hs : Tx.rdS 58 (-999) 999 p with
    | none => exact ⟨fun _ => rfl,fun ys e => by cases e⟩
    | some s =>
      refine ⟨(fun e => by cases e),fun ys e => ?_⟩
      cases e
      simp only [Option.map_map]
      congr 1
      funext q
      simp [fl]
  · rw [if_neg hi,show r - i = 0 by omega,show r - (i + 1) = 0 by omega,rdParts]
    cases hs : Tx.rdN (-999) 999 p with
    | none => exact ⟨fun _ => rfl,fun ys e => by cases e⟩
    | some n =>
      refine ⟨(fun e => by cases e),fun ys e => ?_⟩
      cases e
      simp only [Option.map_map]
      cases hq : rdParts 0 (tl.drop (i + 1)) with
      | none => rfl
      | some q =>
        have h0 := rdParts0 hq
        simp [fl,h0]
theorem FarF.done {r i : Nat} {tl : List (List UInt8)} {xs : List Int} (h : FarF r tl i xs) (hi : tl.length ≤ i) : (rdParts r tl).map fl = some xs := by
  unfold FarF at h
  rw [h,List.drop_eq_nil_of_le hi]
  cases r - i <;> simp [rdParts,fl]
def numsR : List (List UInt8) → Option (List Int)
  | [] => some []
  | x :: l => match numR x with
    | none => none
    | some n => (numsR l).map fun m => n :: m
theorem numsR_step {pl : List (List UInt8)} {k : Nat} {ys : List Int} {x : List UInt8} (h : numsR pl = (numsR (pl.drop k)).map fun m => ys ++ m) (hx : pl[k]? = some x) :
    (numR x = none → numsR pl = none) ∧ ∀ n,numR x = some n → numsR pl = (numsR (pl.drop (k + 1))).map fun m => (ys ++ [n]) ++ m := by
  obtain ⟨hl,he⟩ := List.getElem?_eq_some_iff.1 hx
  rw [h,List.drop_eq_getElem_cons hl,he,numsR]
  refine ⟨fun hn => by rw [hn]; rfl,fun n hn => ?_⟩
  rw [hn]
  simp only [Option.map_map]
  congr 1
  funext m
  simp
theorem no_colon {l : List UInt8} (h : (58 : UInt8) ∈ l) : Tx.rdN (-999) 999 l = none := by
  cases hq : Tx.rdN (-999) 999 l with
  | none => rfl
  | some n =>
    rw [(Tx.rdN_some hq).1] at h
    exact absurd h (Tx.itoa_no n (by decide) (by decide))
theorem stepF_parts {r i : Nat} {p : List UInt8} {pl : List (List UInt8)} (h : split p [58] = pl) :
    ((i < r ∧ pl.length ≠ 2) ∨ (¬ i < r ∧ pl.length ≠ 1) → stepF r i p = none) ∧ ((i < r ∧ pl.length = 2) ∨ (¬ i < r ∧ pl.length = 1) → stepF r i p = numsR pl) := by
  unfold stepF
  by_cases hc : (58 : UInt8) ∈ p
  · obtain ⟨a,b,rfl,ha⟩ := Tx.first_at hc
    rw [Tx.split_at ha] at h
    have hcut := Tx.cut_at (b := b) ha
    have hlen : 1 ≤ (split b [58]).length := by
      have := Tx.split_ne b 58
      cases hq : split b [58] with
      | nil => exact absurd hq this
      | cons x l => simp
    have hpl : pl.length = (split b [58]).length + 1 := by rw [← h,List.length_cons]
    by_cases hi : i < r
    · rw [if_pos hi]
      refine ⟨fun hh => ?_,fun hh => ?_⟩
      · have h2 : (58 : UInt8) ∈ b := by
          by_cases hb : (58 : UInt8) ∈ b
          · exact hb
          · rw [Tx.split_no hb] at hpl
            simp at hpl
            omega
        unfold Tx.rdS
        rw [hcut]
        simp only
        rw [no_colon h2]
        cases Tx.rdN (-999) 999 a <;> rfl
      · have h2 : (58 : UInt8) ∉ b := fun hb => by
          obtain ⟨x,y,rfl,hx⟩ := Tx.first_at hb
          rw [Tx.split_at hx,List.length_cons] at hpl
          have := Tx.split_ne y 58
          cases hq : split y [58] with
          | nil => exact this hq
          | cons z l => rw [hq] at hpl; simp at hpl; omega
        rw [← h,Tx.split_no h2]
        unfold Tx.rdS
        rw [hcut]
        simp only [numsR,numR_eq]
        cases Tx.rdN (-999) 999 a <;> cases Tx.rdN (-999) 999 b <;> rfl
    · rw [if_neg hi]
      refine ⟨fun _ => by rw [no_colon (by simp)]; rfl,fun hh => by omega⟩
  · rw [Tx.split_no hc] at h
    subst h
    by_cases hi : i < r
    · rw [if_pos hi]
      refine ⟨fun _ => ?_,fun hh => by simp at hh; omega⟩
      unfold Tx.rdS
      rw [Tx.cut_no hc]
      simp only
      cases Tx.rdN (-999) 999 p <;> cases Tx.rdN (-999) 999 ([] : List UInt8) <;> rfl
    · rw [if_neg hi]
      refine ⟨fun hh => by simp at hh; omega,fun _ => ?_⟩
      simp only [numsR,numR_eq]
      cases Tx.rdN (-999) 999 p <;> rfl
def NUQ (r0 : Option (List Int)) (w0 : World) (e : Ending) (w' : World) : Prop := Below w0.heap.size w0 w' ∧
  ((r0 = none ∧ e = .returned (.tuple #[.slice none 0 0,.bool false])) ∨ ∃ xs v,r0 = some xs ∧ e = .returned (.tuple #[v,.bool true]) ∧ w'.ownsRow w0.heap.size 3 1 v xs.length (xs.map (Value.int .i64)))
end Go.Proofs.YtljefjngmembkaaGreatDoor
