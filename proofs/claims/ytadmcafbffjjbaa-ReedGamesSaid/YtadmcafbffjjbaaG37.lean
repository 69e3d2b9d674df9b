/- Part 37 of the proof: JobEJG, PJJG, Open. -/
import Derived.Test.YtadmcafbffjjbaaChecked
import Derived.ProofKit
import Derived.ChangeSlices
import Derived.Deep.SlicePairs
import Derived.Lib.SmallJoins
import Derived.Test.YtadmcafbffjjbaaG36
import Derived.Test.YtadmcafbffjjbaaG13
import Derived.Test.YtadmcafbffjjbaaG00
/- JobOf(p, 4, 2), whatever the pot. -/
namespace Go.Sim.JG
set_option linter.all false
open Go.Sim.JD
open Go Go.RowKit Go.Proofs Go.Proofs.Ytadmcafbffjjbaa
set_option maxRecDepth 1000000
noncomputable section
theorem job_enter [Rho] [Asm] [SymOK] {s : Int} (hs : Rho.ρ (nat_lit 0) = s) (hB : Rho.B = 0) {b : Nat} {t : TypeId} {w : World} (hb : Bk w b t #[.int .u64 s]) {v : Value} {n1 : Nat} {upd : List (Nat × Option LO)} (hk : CFact Try.prog ⟨.func (.func (nat_lit 10)) ⟨[]⟩ ⟨[]⟩,[.pointer (some ⟨(nat_lit 0),(nat_lit 0),none⟩),.int .i64 (.ofNat (nat_lit 4)),.int .i64 (.ofNat (nat_lit 2))],potSt,v,n1,[(nat_lit 0)],upd⟩) :
    Calls Try.prog 10 #[.pointer (some ⟨b,0,none⟩),.int .i64 4,.int .i64 2] w fun e w' => ∃ v' ι',e = .returned v' ∧ VR ι' v v' ∧ (∀ x o,(applyU upd potSt.h).get x = some o → ∃ r c y,ι' x = some (r,c) ∧ w'.heap[r]? = some y ∧ OR Try.prog ι' c o y) ∧ (∀ x r c,ι' x = some (r,c) → r < w'.heap.size) ∧ ι' (nat_lit 0) = some (b,1) ∧ Jk b w w' := by
  rcases hk.2 (potI b) w (.func (.func (nat_lit 10)) #[] #[]) [.pointer (some ⟨b,0,none⟩),.int .i64 4,.int .i64 2] (.func (fun _ e => by cases e) .nil .nil) (.cons (.ptr (b := 0) (c := 1) rfl) (.cons (.int _ _) (.cons (.int _ _) .nil))) (pot_wr hs hB hb) with ⟨g,xs,ys,fn,hf,hfn,hbd,hname,hcall⟩ | ⟨r,lp,hf,_⟩
  · cases hf
    have hcall := hcall 0
    simp only [List.nil_append,List.append_nil] at hcall
    refine callsIn_wide.1 (CallsIn.mono hcall ?_)
    rintro e w' ⟨v',rfl,ι',hv,hp⟩
    refine ⟨v',ι',rfl,hv,hp.wr.obj,hp.wr.bound,hp.ext _ _ rfl,hp.os,hp.tape,hp.output,hp.size,fun k hk hkb => hp.frame k hk fun x c hx => ?_⟩
    exact absurd (potI_inv hx).2.1 hkb
  · cases hf
/-- What JobOf hands back. -/
def JobEnd (s : Int) (b n : Nat) (w : World) (e : Ending) (w' : World) : Prop :=
  ∃ a c,e = .returned (.agg (jobC (jobJ s n) (.slice a n c))) ∧ Go.Proofs.Ytadmcafbffjjbaa.Rg w' w'.heap.size a (jobS s |>.take n) ∧ (∃ t s,Bk w' b t #[.int .u64 s]) ∧ Jk b w w'
theorem sym0 {s : Int} (h : res39 s = 0) : @SymOK (jobRho s) asm0 := @SymOK.mk (jobRho s) asm0 fun c hc b hb => by
  have hr : @Rho.ρ (jobRho s) (nat_lit 139) = 0 := h
  replace hc : c = ((.func (.yield (nat_lit 21)) ⟨[wi0,wy139]⟩ ⟨[]⟩),false) := by have hc : c ∈ [((.func (.yield (nat_lit 21)) ⟨[wi0,wy139]⟩ ⟨[]⟩),false)] := hc; simpa only [List.mem_cons,List.not_mem_nil,or_false] using hc
  rcases hc with rfl
  · letI := jobRho s; letI := Asm.none; haveI : SymOK := SymOK.none; have e := ltJ (k := .i64) hb (.lit _ _) (.sym _ _); rw [e,hr]; decide
theorem job0 {s : Int} {b : Nat} {t : TypeId} {w : World} (hb : Bk w b t #[.int .u64 s]) (h : res39 s = 0) : Calls Try.prog 10 #[.pointer (some ⟨b,0,none⟩),.int .i64 4,.int .i64 2] w (JobEnd s b 0 w) := by
  letI := jobRho s
  letI := asm0
  haveI := sym0 h
  refine (job_enter (s := s) rfl rfl hb (run0_ok (sym0 h))).mono ?_
  rintro e w' ⟨v',ι',rfl,hv,hobj,hbd,hι0,hk⟩
  have hpot : ∃ t s,Bk w' b t #[.int .u64 s] := by
    obtain ⟨r',c',o,e1,e2,cs,t',rfl,e3,l',tl,e4,e5⟩ := hobj (nat_lit 0) (.cells [(.func (.yield (nat_lit 0)) ⟨[(.int .u64 (.ofNat (nat_lit 40)))]⟩ ⟨[]⟩)]) (by kernel_rfl)
    rw [hι0] at e1
    cases e1
    exact pot_of e2 e3 e4 e5
  obtain ⟨l,rfl,hl⟩ := hv.aggI
  obtain ⟨x,y,rfl,h1,h2⟩ := LR.app (a := [(.func (.yield (nat_lit 6)) ⟨[wi0,wm59,(.func (.yield (nat_lit 2)) ⟨[wi0,(.func (.yield (nat_lit 1)) ⟨[wi0,wm15,wy103]⟩ ⟨[]⟩),wy105]⟩ ⟨[]⟩)]⟩ ⟨[]⟩),(.func (.yield (nat_lit 7)) ⟨[wi0,wi60,(.func (.yield (nat_lit 1)) ⟨[wi0,(.func (.yield (nat_lit 1)) ⟨[wi0,wm15,wy103]⟩ ⟨[]⟩),wy107]⟩ ⟨[]⟩)]⟩ ⟨[]⟩),(.func (.yield (nat_lit 6)) ⟨[wi0,wi0,(.func (.yield (nat_lit 2)) ⟨[wi0,(.func (.yield (nat_lit 1)) ⟨[wi0,wi20,wy108]⟩ ⟨[]⟩),wy110]⟩ ⟨[]⟩)]⟩ ⟨[]⟩),(.func (.yield (nat_lit 7)) ⟨[wi0,wi100,(.func (.yield (nat_lit 1)) ⟨[wi0,(.func (.yield (nat_lit 1)) ⟨[wi0,wi20,wy108]⟩ ⟨[]⟩),wy112]⟩ ⟨[]⟩)]⟩ ⟨[]⟩),(.func (.yield (nat_lit 6)) ⟨[wi0,wi0,(.func (.yield (nat_lit 2)) ⟨[wi0,(.func (.yield (nat_lit 1)) ⟨[wi0,wi20,wy113]⟩ ⟨[]⟩),wy115]⟩ ⟨[]⟩)]⟩ ⟨[]⟩),(.func (.yield (nat_lit 7)) ⟨[wi0,wi100,(.func (.yield (nat_lit 1)) ⟨[wi0,(.func (.yield (nat_lit 1)) ⟨[wi0,wi20,wy113]⟩ ⟨[]⟩),wy117]⟩ ⟨[]⟩)]⟩ ⟨[]⟩),(.func (.yield (nat_lit 6)) ⟨[wi0,wi0,(.func (.yield (nat_lit 2)) ⟨[wi0,(.func (.yield (nat_lit 1)) ⟨[wi0,wi1,wy118]⟩ ⟨[]⟩),wy120]⟩ ⟨[]⟩)]⟩ ⟨[]⟩),(.func (.yield (nat_lit 7)) ⟨[wi0,wi12,(.func (.yield (nat_lit 1)) ⟨[wi0,(.func (.yield (nat_lit 1)) ⟨[wi0,wi1,wy118]⟩ ⟨[]⟩),wy122]⟩ ⟨[]⟩)]⟩ ⟨[]⟩),(.func (.yield (nat_lit 6)) ⟨[wi0,wi0,(.func (.yield (nat_lit 2)) ⟨[wi0,(.func (.yield (nat_lit 1)) ⟨[wi0,wi1,wy123]⟩ ⟨[]⟩),wy125]⟩ ⟨[]⟩)]⟩ ⟨[]⟩),(.func (.yield (nat_lit 7)) ⟨[wi0,wi12,(.func (.yield (nat_lit 1)) ⟨[wi0,(.func (.yield (nat_lit 1)) ⟨[wi0,wi1,wy123]⟩ ⟨[]⟩),wy127]⟩ ⟨[]⟩)]⟩ ⟨[]⟩),(.func (.yield (nat_lit 6)) ⟨[wi0,wi0,(.func (.yield (nat_lit 2)) ⟨[wi0,wy128,wy130]⟩ ⟨[]⟩)]⟩ ⟨[]⟩),(.func (.yield (nat_lit 7)) ⟨[wi0,wi12,(.func (.yield (nat_lit 1)) ⟨[wi0,wy128,wy132]⟩ ⟨[]⟩)]⟩ ⟨[]⟩),(.func (.yield (nat_lit 6)) ⟨[wi0,wi0,(.func (.yield (nat_lit 2)) ⟨[wi0,wy133,wy135]⟩ ⟨[]⟩)]⟩ ⟨[]⟩),(.func (.yield (nat_lit 7)) ⟨[wi0,wi12,(.func (.yield (nat_lit 1)) ⟨[wi0,wy133,wy137]⟩ ⟨[]⟩)]⟩ ⟨[]⟩),(.func (.yield (nat_lit 1)) ⟨[wi0,wi10,wy138]⟩ ⟨[]⟩)]) (b := (.slice none (nat_lit 0) (nat_lit 0)) :: [(.func (.yield (nat_lit 1)) ⟨[wi0,wi1,wy100]⟩ ⟨[]⟩),wy102]) hl
  have e1 := DLs.only (.cons (.max (.lit _ _) (.sub (.add (.lit _ _) (.sym _ _)) (.sym _ _))) (.cons (.min (.lit _ _) (.add (.add (.lit _ _) (.sym _ _)) (.sym _ _))) (.cons (.max (.lit _ _) (.sub (.add (.lit _ _) (.sym _ _)) (.sym _ _))) (.cons (.min (.lit _ _) (.add (.add (.lit _ _) (.sym _ _)) (.sym _ _))) (.cons (.max (.lit _ _) (.sub (.add (.lit _ _) (.sym _ _)) (.sym _ _))) (.cons (.min (.lit _ _) (.add (.add (.lit _ _) (.sym _ _)) (.sym _ _))) (.cons (.max (.lit _ _) (.sub (.add (.lit _ _) (.sym _ _)) (.sym _ _))) (.cons (.min (.lit _ _) (.add (.add (.lit _ _) (.sym _ _)) (.sym _ _))) (.cons (.max (.lit _ _) (.sub (.add (.lit _ _) (.sym _ _)) (.sym _ _))) (.cons (.min (.lit _ _) (.add (.add (.lit _ _) (.sym _ _)) (.sym _ _))) (.cons (.max (.lit _ _) (.sub (.sym _ _) (.sym _ _))) (.cons (.min (.lit _ _) (.add (.sym _ _) (.sym _ _))) (.cons (.max (.lit _ _) (.sub (.sym _ _) (.sym _ _))) (.cons (.min (.lit _ _) (.add (.sym _ _) (.sym _ _))) (.cons (.add (.lit _ _) (.sym _ _)) .nil))))))))))))))) h1
  cases h2 with
  | cons hs h3 =>
    have e3 := DLs.only (.cons (.add (.lit _ _) (.sym _ _)) (.cons (.sym _ _) .nil)) h3
    subst e1 e3
    have hsl := hs.sl0I (by decide)
    subst hsl
    exact ⟨none,0,rfl,Go.Proofs.Ytadmcafbffjjbaa.Rg.nil _ _ _,hpot,hk⟩
theorem sym1 {s : Int} (h : res39 s = 1) : @SymOK (jobRho s) asm1 := @SymOK.mk (jobRho s) asm1 fun c hc b hb => by
  have hr : @Rho.ρ (jobRho s) (nat_lit 139) = 1 := h
  replace hc : c = ((.func (.yield (nat_lit 21)) ⟨[wi0,wy139]⟩ ⟨[]⟩),true) ∨ c = ((.func (.yield (nat_lit 21)) ⟨[wi0,(.func (.yield (nat_lit 2)) ⟨[wi0,wy139,wi1]⟩ ⟨[]⟩)]⟩ ⟨[]⟩),false) := by have hc : c ∈ [((.func (.yield (nat_lit 21)) ⟨[wi0,wy139]⟩ ⟨[]⟩),true),((.func (.yield (nat_lit 21)) ⟨[wi0,(.func (.yield (nat_lit 2)) ⟨[wi0,wy139,wi1]⟩ ⟨[]⟩)]⟩ ⟨[]⟩),false)] := hc; simpa only [List.mem_cons,List.not_mem_nil,or_false] using hc
  rcases hc with rfl | rfl
  · letI := jobRho s; letI := Asm.none; haveI : SymOK := SymOK.none; have e := ltJ (k := .i64) hb (.lit _ _) (.sym _ _); rw [e,hr]; decide
  · letI := jobRho s; letI := Asm.none; haveI : SymOK := SymOK.none; have e := ltJ (k := .i64) hb (.lit _ _) (.sub (.sym _ _) (.lit _ _)); rw [e,hr]; decide
theorem job1 {s : Int} {b : Nat} {t : TypeId} {w : World} (hb : Bk w b t #[.int .u64 s]) (h : res39 s = 1) : Calls Try.prog 10 #[.pointer (some ⟨b,0,none⟩),.int .i64 4,.int .i64 2] w (JobEnd s b 1 w) := by
  letI := jobRho s
  letI := asm1
  haveI := sym1 h
  refine (job_enter (s := s) rfl rfl hb (run1_ok (sym1 h))).mono ?_
  rintro e w' ⟨v',ι',rfl,hv,hobj,hbd,hι0,hk⟩
  have hpot : ∃ t s,Bk w' b t #[.int .u64 s] := by
    obtain ⟨r',c',o,e1,e2,cs,t',rfl,e3,l',tl,e4,e5⟩ := hobj (nat_lit 0) (.cells [(.func (.yield (nat_lit 0)) ⟨[(.int .u64 (.ofNat (nat_lit 45)))]⟩ ⟨[]⟩)]) (by kernel_rfl)
    rw [hι0] at e1
    cases e1
    exact pot_of e2 e3 e4 e5
  obtain ⟨l,rfl,hl⟩ := hv.aggI
  obtain ⟨x,y,rfl,h1,h2⟩ := LR.app (a := [(.func (.yield (nat_lit 6)) ⟨[wi0,wm59,(.func (.yield (nat_lit 2)) ⟨[wi0,(.func (.yield (nat_lit 1)) ⟨[wi0,wm15,wy103]⟩ ⟨[]⟩),wy105]⟩ ⟨[]⟩)]⟩ ⟨[]⟩),(.func (.yield (nat_lit 7)) ⟨[wi0,wi60,(.func (.yield (nat_lit 1)) ⟨[wi0,(.func (.yield (nat_lit 1)) ⟨[wi0,wm15,wy103]⟩ ⟨[]⟩),wy107]⟩ ⟨[]⟩)]⟩ ⟨[]⟩),(.func (.yield (nat_lit 6)) ⟨[wi0,wi0,(.func (.yield (nat_lit 2)) ⟨[wi0,(.func (.yield (nat_lit 1)) ⟨[wi0,wi20,wy108]⟩ ⟨[]⟩),wy110]⟩ ⟨[]⟩)]⟩ ⟨[]⟩),(.func (.yield (nat_lit 7)) ⟨[wi0,wi100,(.func (.yield (nat_lit 1)) ⟨[wi0,(.func (.yield (nat_lit 1)) ⟨[wi0,wi20,wy108]⟩ ⟨[]⟩),wy112]⟩ ⟨[]⟩)]⟩ ⟨[]⟩),(.func (.yield (nat_lit 6)) ⟨[wi0,wi0,(.func (.yield (nat_lit 2)) ⟨[wi0,(.func (.yield (nat_lit 1)) ⟨[wi0,wi20,wy113]⟩ ⟨[]⟩),wy115]⟩ ⟨[]⟩)]⟩ ⟨[]⟩),(.func (.yield (nat_lit 7)) ⟨[wi0,wi100,(.func (.yield (nat_lit 1)) ⟨[wi0,(.func (.yield (nat_lit 1)) ⟨[wi0,wi20,wy113]⟩ ⟨[]⟩),wy117]⟩ ⟨[]⟩)]⟩ ⟨[]⟩),(.func (.yield (nat_lit 6)) ⟨[wi0,wi0,(.func (.yield (nat_lit 2)) ⟨[wi0,(.func (.yield (nat_lit 1)) ⟨[wi0,wi1,wy118]⟩ ⟨[]⟩),wy120]⟩ ⟨[]⟩)]⟩ ⟨[]⟩),(.func (.yield (nat_lit 7)) ⟨[wi0,wi12,(.func (.yield (nat_lit 1)) ⟨[wi0,(.func (.yield (nat_lit 1)) ⟨[wi0,wi1,wy118]⟩ ⟨[]⟩),wy122]⟩ ⟨[]⟩)]⟩ ⟨[]⟩),(.func (.yield (nat_lit 6)) ⟨[wi0,wi0,(.func (.yield (nat_lit 2)) ⟨[wi0,(.func (.yield (nat_lit 1)) ⟨[wi0,wi1,wy123]⟩ ⟨[]⟩),wy125]⟩ ⟨[]⟩)]⟩ ⟨[]⟩),(.func (.yield (nat_lit 7)) ⟨[wi0,wi12,(.func (.yield (nat_lit 1)) ⟨[wi0,(.func (.yield (nat_lit 1)) ⟨[wi0,wi1,wy123]⟩ ⟨[]⟩),wy127]⟩ ⟨[]⟩)]⟩ ⟨[]⟩),(.func (.yield (nat_lit 6)) ⟨[wi0,wi0,(.func (.yield (nat_lit 2)) ⟨[wi0,wy128,wy130]⟩ ⟨[]⟩)]⟩ ⟨[]⟩),(.func (.yield (nat_lit 7)) ⟨[wi0,wi12,(.func (.yield (nat_lit 1)) ⟨[wi0,wy128,wy132]⟩ ⟨[]⟩)]⟩ ⟨[]⟩),(.func (.yield (nat_lit 6)) ⟨[wi0,wi0,(.func (.yield (nat_lit 2)) ⟨[wi0,wy133,wy135]⟩ ⟨[]⟩)]⟩ ⟨[]⟩),(.func (.yield (nat_lit 7)) ⟨[wi0,wi12,(.func (.yield (nat_lit 1)) ⟨[wi0,wy133,wy137]⟩ ⟨[]⟩)]⟩ ⟨[]⟩),(.func (.yield (nat_lit 1)) ⟨[wi0,wi10,wy138]⟩ ⟨[]⟩)]) (b := (.slice (some ⟨(nat_lit 14),(nat_lit 0),none⟩) (nat_lit 1) (nat_lit 18446744073709551618)) :: [(.func (.yield (nat_lit 1)) ⟨[wi0,wi1,wy100]⟩ ⟨[]⟩),wy102]) hl
  have e1 := DLs.only (.cons (.max (.lit _ _) (.sub (.add (.lit _ _) (.sym _ _)) (.sym _ _))) (.cons (.min (.lit _ _) (.add (.add (.lit _ _) (.sym _ _)) (.sym _ _))) (.cons (.max (.lit _ _) (.sub (.add (.lit _ _) (.sym _ _)) (.sym _ _))) (.cons (.min (.lit _ _) (.add (.add (.lit _ _) (.sym _ _)) (.sym _ _))) (.cons (.max (.lit _ _) (.sub (.add (.lit _ _) (.sym _ _)) (.sym _ _))) (.cons (.min (.lit _ _) (.add (.add (.lit _ _) (.sym _ _)) (.sym _ _))) (.cons (.max (.lit _ _) (.sub (.add (.lit _ _) (.sym _ _)) (.sym _ _))) (.cons (.min (.lit _ _) (.add (.add (.lit _ _) (.sym _ _)) (.sym _ _))) (.cons (.max (.lit _ _) (.sub (.add (.lit _ _) (.sym _ _)) (.sym _ _))) (.cons (.min (.lit _ _) (.add (.add (.lit _ _) (.sym _ _)) (.sym _ _))) (.cons (.max (.lit _ _) (.sub (.sym _ _) (.sym _ _))) (.cons (.min (.lit _ _) (.add (.sym _ _) (.sym _ _))) (.cons (.max (.lit _ _) (.sub (.sym _ _) (.sym _ _))) (.cons (.min (.lit _ _) (.add (.sym _ _) (.sym _ _))) (.cons (.add (.lit _ _) (.sym _ _)) .nil))))))))))))))) h1
  cases h2 with
  | cons hs h3 =>
    have e3 := DLs.only (.cons (.add (.lit _ _) (.sym _ _)) (.cons (.sym _ _) .nil)) h3
    subst e1 e3
    obtain ⟨r,cc,cp,rfl,hι⟩ := slUI hs
    obtain ⟨r',c',o,e1,e2,cs,t',rfl,e3,l',tl,e4,e5⟩ := hobj (nat_lit 14) (.cells [(.func (.yield (nat_lit 6)) ⟨[wi0,wm59,(.func (.yield (nat_lit 2)) ⟨[wi0,(.func (.yield (nat_lit 1)) ⟨[wi0,wm2,wy140]⟩ ⟨[]⟩),wy142]⟩ ⟨[]⟩)]⟩ ⟨[]⟩),(.func (.yield (nat_lit 7)) ⟨[wi0,wi60,(.func (.yield (nat_lit 1)) ⟨[wi0,(.func (.yield (nat_lit 1)) ⟨[wi0,wm2,wy140]⟩ ⟨[]⟩),wy144]⟩ ⟨[]⟩)]⟩ ⟨[]⟩)]) (by kernel_rfl)
    rw [hι] at e1
    cases e1
    have e6 := DLs.only (.cons (.max (.lit _ _) (.sub (.add (.lit _ _) (.sym _ _)) (.sym _ _))) (.cons (.min (.lit _ _) (.add (.add (.lit _ _) (.sym _ _)) (.sym _ _))) .nil)) e5
    subst e6
    refine ⟨some ⟨r,0,none⟩,cp,rfl,?_,hpot,hk⟩
    exact rg_of (l := (jobS s).take 1) e2 (by rw [e4]; rfl) (hbd _ _ _ hι)
theorem sym2 {s : Int} (h : res39 s = 2) : @SymOK (jobRho s) asm2 := @SymOK.mk (jobRho s) asm2 fun c hc b hb => by
  have hr : @Rho.ρ (jobRho s) (nat_lit 139) = 2 := h
  replace hc : c = ((.func (.yield (nat_lit 21)) ⟨[wi0,wy139]⟩ ⟨[]⟩),true) ∨ c = ((.func (.yield (nat_lit 21)) ⟨[wi0,(.func (.yield (nat_lit 2)) ⟨[wi0,wy139,wi1]⟩ ⟨[]⟩)]⟩ ⟨[]⟩),true) ∨ c = ((.func (.yield (nat_lit 21)) ⟨[wi0,(.func (.yield (nat_lit 2)) ⟨[wi0,(.func (.yield (nat_lit 2)) ⟨[wi0,wy139,wi1]⟩ ⟨[]⟩),wi1]⟩ ⟨[]⟩)]⟩ ⟨[]⟩),false) := by have hc : c ∈ [((.func (.yield (nat_lit 21)) ⟨[wi0,wy139]⟩ ⟨[]⟩),true),((.func (.yield (nat_lit 21)) ⟨[wi0,(.func (.yield (nat_lit 2)) ⟨[wi0,wy139,wi1]⟩ ⟨[]⟩)]⟩ ⟨[]⟩),true),((.func (.yield (nat_lit 21)) ⟨[wi0,(.func (.yield (nat_lit 2)) ⟨[wi0,(.func (.yield (nat_lit 2)) ⟨[wi0,wy139,wi1]⟩ ⟨[]⟩),wi1]⟩ ⟨[]⟩)]⟩ ⟨[]⟩),false)] := hc; simpa only [List.mem_cons,List.not_mem_nil,or_false] using hc
  rcases hc with rfl | rfl | rfl
  · letI := jobRho s; letI := Asm.none; haveI : SymOK := SymOK.none; have e := ltJ (k := .i64) hb (.lit _ _) (.sym _ _); rw [e,hr]; decide
  · letI := jobRho s; letI := Asm.none; haveI : SymOK := SymOK.none; have e := ltJ (k := .i64) hb (.lit _ _) (.sub (.sym _ _) (.lit _ _)); rw [e,hr]; decide
  · letI := jobRho s; letI := Asm.none; haveI : SymOK := SymOK.none; have e := ltJ (k := .i64) hb (.lit _ _) (.sub (.sub (.sym _ _) (.lit _ _)) (.lit _ _)); rw [e,hr]; decide
theorem job2 {s : Int} {b : Nat} {t : TypeId} {w : World} (hb : Bk w b t #[.int .u64 s]) (h : res39 s = 2) : Calls Try.prog 10 #[.pointer (some ⟨b,0,none⟩),.int .i64 4,.int .i64 2] w (JobEnd s b 2 w) := by
  letI := jobRho s
  letI := asm2
  haveI := sym2 h
  refine (job_enter (s := s) rfl rfl hb (run2_ok (sym2 h))).mono ?_
  rintro e w' ⟨v',ι',rfl,hv,hobj,hbd,hι0,hk⟩
  have hpot : ∃ t s,Bk w' b t #[.int .u64 s] := by
    obtain ⟨r',c',o,e1,e2,cs,t',rfl,e3,l',tl,e4,e5⟩ := hobj (nat_lit 0) (.cells [(.func (.yield (nat_lit 0)) ⟨[(.int .u64 (.ofNat (nat_lit 50)))]⟩ ⟨[]⟩)]) (by kernel_rfl)
    rw [hι0] at e1
    cases e1
    exact pot_of e2 e3 e4 e5
  obtain ⟨l,rfl,hl⟩ := hv.aggI
  obtain ⟨x,y,rfl,h1,h2⟩ := LR.app (a := [(.func (.yield (nat_lit 6)) ⟨[wi0,wm59,(.func (.yield (nat_lit 2)) ⟨[wi0,(.func (.yield (nat_lit 1)) ⟨[wi0,wm15,wy103]⟩ ⟨[]⟩),wy105]⟩ ⟨[]⟩)]⟩ ⟨[]⟩),(.func (.yield (nat_lit 7)) ⟨[wi0,wi60,(.func (.yield (nat_lit 1)) ⟨[wi0,(.func (.yield (nat_lit 1)) ⟨[wi0,wm15,wy103]⟩ ⟨[]⟩),wy107]⟩ ⟨[]⟩)]⟩ ⟨[]⟩),(.func (.yield (nat_lit 6)) ⟨[wi0,wi0,(.func (.yield (nat_lit 2)) ⟨[wi0,(.func (.yield (nat_lit 1)) ⟨[wi0,wi20,wy108]⟩ ⟨[]⟩),wy110]⟩ ⟨[]⟩)]⟩ ⟨[]⟩),(.func (.yield (nat_lit 7)) ⟨[wi0,wi100,(.func (.yield (nat_lit 1)) ⟨[wi0,(.func (.yield (nat_lit 1)) ⟨[wi0,wi20,wy108]⟩ ⟨[]⟩),wy112]⟩ ⟨[]⟩)]⟩ ⟨[]⟩),(.func (.yield (nat_lit 6)) ⟨[wi0,wi0,(.func (.yield (nat_lit 2)) ⟨[wi0,(.func (.yield (nat_lit 1)) ⟨[wi0,wi20,wy113]⟩ ⟨[]⟩),wy115]⟩ ⟨[]⟩)]⟩ ⟨[]⟩),(.func (.yield (nat_lit 7)) ⟨[wi0,wi100,(.func (.yield (nat_lit 1)) ⟨[wi0,(.func (.yield (nat_lit 1)) ⟨[wi0,wi20,wy113]⟩ ⟨[]⟩),wy117]⟩ ⟨[]⟩)]⟩ ⟨[]⟩),(.func (.yield (nat_lit 6)) ⟨[wi0,wi0,(.func (.yield (nat_lit 2)) ⟨[wi0,(.func (.yield (nat_lit 1)) ⟨[wi0,wi1,wy118]⟩ ⟨[]⟩),wy120]⟩ ⟨[]⟩)]⟩ ⟨[]⟩),(.func (.yield (nat_lit 7)) ⟨[wi0,wi12,(.func (.yield (nat_lit 1)) ⟨[wi0,(.func (.yield (nat_lit 1)) ⟨[wi0,wi1,wy118]⟩ ⟨[]⟩),wy122]⟩ ⟨[]⟩)]⟩ ⟨[]⟩),(.func (.yield (nat_lit 6)) ⟨[wi0,wi0,(.func (.yield (nat_lit 2)) ⟨[wi0,(.func (.yield (nat_lit 1)) ⟨[wi0,wi1,wy123]⟩ ⟨[]⟩),wy125]⟩ ⟨[]⟩)]⟩ ⟨[]⟩),(.func (.yield (nat_lit 7)) ⟨[wi0,wi12,(.func (.yield (nat_lit 1)) ⟨[wi0,(.func (.yield (nat_lit 1)) ⟨[wi0,wi1,wy123]⟩ ⟨[]⟩),wy127]⟩ ⟨[]⟩)]⟩ ⟨[]⟩),(.func (.yield (nat_lit 6)) ⟨[wi0,wi0,(.func (.yield (nat_lit 2)) ⟨[wi0,wy128,wy130]⟩ ⟨[]⟩)]⟩ ⟨[]⟩),(.func (.yield (nat_lit 7)) ⟨[wi0,wi12,(.func (.yield (nat_lit 1)) ⟨[wi0,wy128,wy132]⟩ ⟨[]⟩)]⟩ ⟨[]⟩),(.func (.yield (nat_lit 6)) ⟨[wi0,wi0,(.func (.yield (nat_lit 2)) ⟨[wi0,wy133,wy135]⟩ ⟨[]⟩)]⟩ ⟨[]⟩),(.func (.yield (nat_lit 7)) ⟨[wi0,wi12,(.func (.yield (nat_lit 1)) ⟨[wi0,wy133,wy137]⟩ ⟨[]⟩)]⟩ ⟨[]⟩),(.func (.yield (nat_lit 1)) ⟨[wi0,wi10,wy138]⟩ ⟨[]⟩)]) (b := (.slice (some ⟨(nat_lit 25),(nat_lit 0),none⟩) (nat_lit 2) (nat_lit 18446744073709551618)) :: [(.func (.yield (nat_lit 1)) ⟨[wi0,wi1,wy100]⟩ ⟨[]⟩),wy102]) hl
  have e1 := DLs.only (.cons (.max (.lit _ _) (.sub (.add (.lit _ _) (.sym _ _)) (.sym _ _))) (.cons (.min (.lit _ _) (.add (.add (.lit _ _) (.sym _ _)) (.sym _ _))) (.cons (.max (.lit _ _) (.sub (.add (.lit _ _) (.sym _ _)) (.sym _ _))) (.cons (.min (.lit _ _) (.add (.add (.lit _ _) (.sym _ _)) (.sym _ _))) (.cons (.max (.lit _ _) (.sub (.add (.lit _ _) (.sym _ _)) (.sym _ _))) (.cons (.min (.lit _ _) (.add (.add (.lit _ _) (.sym _ _)) (.sym _ _))) (.cons (.max (.lit _ _) (.sub (.add (.lit _ _) (.sym _ _)) (.sym _ _))) (.cons (.min (.lit _ _) (.add (.add (.lit _ _) (.sym _ _)) (.sym _ _))) (.cons (.max (.lit _ _) (.sub (.add (.lit _ _) (.sym _ _)) (.sym _ _))) (.cons (.min (.lit _ _) (.add (.add (.lit _ _) (.sym _ _)) (.sym _ _))) (.cons (.max (.lit _ _) (.sub (.sym _ _) (.sym _ _))) (.cons (.min (.lit _ _) (.add (.sym _ _) (.sym _ _))) (.cons (.max (.lit _ _) (.sub (.sym _ _) (.sym _ _))) (.cons (.min (.lit _ _) (.add (.sym _ _) (.sym _ _))) (.cons (.add (.lit _ _) (.sym _ _)) .nil))))))))))))))) h1
  cases h2 with
  | cons hs h3 =>
    have e3 := DLs.only (.cons (.add (.lit _ _) (.sym _ _)) (.cons (.sym _ _) .nil)) h3
    subst e1 e3
    obtain ⟨r,cc,cp,rfl,hι⟩ := slUI hs
    obtain ⟨r',c',o,e1,e2,cs,t',rfl,e3,l',tl,e4,e5⟩ := hobj (nat_lit 25) (.cells [(.func (.yield (nat_lit 6)) ⟨[wi0,wm59,(.func (.yield (nat_lit 2)) ⟨[wi0,(.func (.yield (nat_lit 1)) ⟨[wi0,wm2,wy140]⟩ ⟨[]⟩),wy142]⟩ ⟨[]⟩)]⟩ ⟨[]⟩),(.func (.yield (nat_lit 7)) ⟨[wi0,wi60,(.func (.yield (nat_lit 1)) ⟨[wi0,(.func (.yield (nat_lit 1)) ⟨[wi0,wm2,wy140]⟩ ⟨[]⟩),wy144]⟩ ⟨[]⟩)]⟩ ⟨[]⟩),(.func (.yield (nat_lit 6)) ⟨[wi0,wm59,(.func (.yield (nat_lit 2)) ⟨[wi0,(.func (.yield (nat_lit 1)) ⟨[wi0,wm2,wy145]⟩ ⟨[]⟩),wy147]⟩ ⟨[]⟩)]⟩ ⟨[]⟩),(.func (.yield (nat_lit 7)) ⟨[wi0,wi60,(.func (.yield (nat_lit 1)) ⟨[wi0,(.func (.yield (nat_lit 1)) ⟨[wi0,wm2,wy145]⟩ ⟨[]⟩),wy149]⟩ ⟨[]⟩)]⟩ ⟨[]⟩)]) (by kernel_rfl)
    rw [hι] at e1
    cases e1
    have e6 := DLs.only (.cons (.max (.lit _ _) (.sub (.add (.lit _ _) (.sym _ _)) (.sym _ _))) (.cons (.min (.lit _ _) (.add (.add (.lit _ _) (.sym _ _)) (.sym _ _))) (.cons (.max (.lit _ _) (.sub (.add (.lit _ _) (.sym _ _)) (.sym _ _))) (.cons (.min (.lit _ _) (.add (.add (.lit _ _) (.sym _ _)) (.sym _ _))) .nil)))) e5
    subst e6
    refine ⟨some ⟨r,0,none⟩,cp,rfl,?_,hpot,hk⟩
    exact rg_of (l := (jobS s).take 2) e2 (by rw [e4]; rfl) (hbd _ _ _ hι)
theorem sym3 {s : Int} (h : res39 s = 3) : @SymOK (jobRho s) asm3 := @SymOK.mk (jobRho s) asm3 fun c hc b hb => by
  have hr : @Rho.ρ (jobRho s) (nat_lit 139) = 3 := h
  replace hc : c = ((.func (.yield (nat_lit 21)) ⟨[wi0,wy139]⟩ ⟨[]⟩),true) ∨ c = ((.func (.yield (nat_lit 21)) ⟨[wi0,(.func (.yield (nat_lit 2)) ⟨[wi0,wy139,wi1]⟩ ⟨[]⟩)]⟩ ⟨[]⟩),true) ∨ c = ((.func (.yield (nat_lit 21)) ⟨[wi0,(.func (.yield (nat_lit 2)) ⟨[wi0,(.func (.yield (nat_lit 2)) ⟨[wi0,wy139,wi1]⟩ ⟨[]⟩),wi1]⟩ ⟨[]⟩)]⟩ ⟨[]⟩),true) ∨ c = ((.func (.yield (nat_lit 21)) ⟨[wi0,(.func (.yield (nat_lit 2)) ⟨[wi0,(.func (.yield (nat_lit 2)) ⟨[wi0,(.func (.yield (nat_lit 2)) ⟨[wi0,wy139,wi1]⟩ ⟨[]⟩),wi1]⟩ ⟨[]⟩),wi1]⟩ ⟨[]⟩)]⟩ ⟨[]⟩),false) := by have hc : c ∈ [((.func (.yield (nat_lit 21)) ⟨[wi0,wy139]⟩ ⟨[]⟩),true),((.func (.yield (nat_lit 21)) ⟨[wi0,(.func (.yield (nat_lit 2)) ⟨[wi0,wy139,wi1]⟩ ⟨[]⟩)]⟩ ⟨[]⟩),true),((.func (.yield (nat_lit 21)) ⟨[wi0,(.func (.yield (nat_lit 2)) ⟨[wi0,(.func (.yield (nat_lit 2)) ⟨[wi0,wy139,wi1]⟩ ⟨[]⟩),wi1]⟩ ⟨[]⟩)]⟩ ⟨[]⟩),true),((.func (.yield (nat_lit 21)) ⟨[wi0,(.func (.yield (nat_lit 2)) ⟨[wi0,(.func (.yield (nat_lit 2)) ⟨[wi0,(.func (.yield (nat_lit 2)) ⟨[wi0,wy139,wi1]⟩ ⟨[]⟩),wi1]⟩ ⟨[]⟩),wi1]⟩ ⟨[]⟩)]⟩ ⟨[]⟩),false)] := hc; simpa only [List.mem_cons,List.not_mem_nil,or_false] using hc
  rcases hc with rfl | rfl | rfl | rfl
  · letI := jobRho s; letI := Asm.none; haveI : SymOK := SymOK.none; have e := ltJ (k := .i64) hb (.lit _ _) (.sym _ _); rw [e,hr]; decide
  · letI := jobRho s; letI := Asm.none; haveI : SymOK := SymOK.none; have e := ltJ (k := .i64) hb (.lit _ _) (.sub (.sym _ _) (.lit _ _)); rw [e,hr]; decide
  · letI := jobRho s; letI := Asm.none; haveI : SymOK := SymOK.none; have e := ltJ (k := .i64) hb (.lit _ _) (.sub (.sub (.sym _ _) (.lit _ _)) (.lit _ _)); rw [e,hr]; decide
  · letI := jobRho s; letI := Asm.none; haveI : SymOK := SymOK.none; have e := ltJ (k := .i64) hb (.lit _ _) (.sub (.sub (.sub (.sym _ _) (.lit _ _)) (.lit _ _)) (.lit _ _)); rw [e,hr]; decide
theorem job3 {s : Int} {b : Nat} {t : TypeId} {w : World} (hb : Bk w b t #[.int .u64 s]) (h : res39 s = 3) : Calls Try.prog 10 #[.pointer (some ⟨b,0,none⟩),.int .i64 4,.int .i64 2] w (JobEnd s b 3 w) := by
  letI := jobRho s
  letI := asm3
  haveI := sym3 h
  refine (job_enter (s := s) rfl rfl hb (run3_ok (sym3 h))).mono ?_
  rintro e w' ⟨v',ι',rfl,hv,hobj,hbd,hι0,hk⟩
  have hpot : ∃ t s,Bk w' b t #[.int .u64 s] := by
    obtain ⟨r',c',o,e1,e2,cs,t',rfl,e3,l',tl,e4,e5⟩ := hobj (nat_lit 0) (.cells [(.func (.yield (nat_lit 0)) ⟨[(.int .u64 (.ofNat (nat_lit 55)))]⟩ ⟨[]⟩)]) (by kernel_rfl)
    rw [hι0] at e1
    cases e1
    exact pot_of e2 e3 e4 e5
  obtain ⟨l,rfl,hl⟩ := hv.aggI
  obtain ⟨x,y,rfl,h1,h2⟩ := LR.app (a := [(.func (.yield (nat_lit 6)) ⟨[wi0,wm59,(.func (.yield (nat_lit 2)) ⟨[wi0,(.func (.yield (nat_lit 1)) ⟨[wi0,wm15,wy103]⟩ ⟨[]⟩),wy105]⟩ ⟨[]⟩)]⟩ ⟨[]⟩),(.func (.yield (nat_lit 7)) ⟨[wi0,wi60,(.func (.yield (nat_lit 1)) ⟨[wi0,(.func (.yield (nat_lit 1)) ⟨[wi0,wm15,wy103]⟩ ⟨[]⟩),wy107]⟩ ⟨[]⟩)]⟩ ⟨[]⟩),(.func (.yield (nat_lit 6)) ⟨[wi0,wi0,(.func (.yield (nat_lit 2)) ⟨[wi0,(.func (.yield (nat_lit 1)) ⟨[wi0,wi20,wy108]⟩ ⟨[]⟩),wy110]⟩ ⟨[]⟩)]⟩ ⟨[]⟩),(.func (.yield (nat_lit 7)) ⟨[wi0,wi100,(.func (.yield (nat_lit 1)) ⟨[wi0,(.func (.yield (nat_lit 1)) ⟨[wi0,wi20,wy108]⟩ ⟨[]⟩),wy112]⟩ ⟨[]⟩)]⟩ ⟨[]⟩),(.func (.yield (nat_lit 6)) ⟨[wi0,wi0,(.func (.yield (nat_lit 2)) ⟨[wi0,(.func (.yield (nat_lit 1)) ⟨[wi0,wi20,wy113]⟩ ⟨[]⟩),wy115]⟩ ⟨[]⟩)]⟩ ⟨[]⟩),(.func (.yield (nat_lit 7)) ⟨[wi0,wi100,(.func (.yield (nat_lit 1)) ⟨[wi0,(.func (.yield (nat_lit 1)) ⟨[wi0,wi20,wy113]⟩ ⟨[]⟩),wy117]⟩ ⟨[]⟩)]⟩ ⟨[]⟩),(.func (.yield (nat_lit 6)) ⟨[wi0,wi0,(.func (.yield (nat_lit 2)) ⟨[wi0,(.func (.yield (nat_lit 1)) ⟨[wi0,wi1,wy118]⟩ ⟨[]⟩),wy120]⟩ ⟨[]⟩)]⟩ ⟨[]⟩),(.func (.yield (nat_lit 7)) ⟨[wi0,wi12,(.func (.yield (nat_lit 1)) ⟨[wi0,(.func (.yield (nat_lit 1)) ⟨[wi0,wi1,wy118]⟩ ⟨[]⟩),wy122]⟩ ⟨[]⟩)]⟩ ⟨[]⟩),(.func (.yield (nat_lit 6)) ⟨[wi0,wi0,(.func (.yield (nat_lit 2)) ⟨[wi0,(.func (.yield (nat_lit 1)) ⟨[wi0,wi1,wy123]⟩ ⟨[]⟩),wy125]⟩ ⟨[]⟩)]⟩ ⟨[]⟩),(.func (.yield (nat_lit 7)) ⟨[wi0,wi12,(.func (.yield (nat_lit 1)) ⟨[wi0,(.func (.yield (nat_lit 1)) ⟨[wi0,wi1,wy123]⟩ ⟨[]⟩),wy127]⟩ ⟨[]⟩)]⟩ ⟨[]⟩),(.func (.yield (nat_lit 6)) ⟨[wi0,wi0,(.func (.yield (nat_lit 2)) ⟨[wi0,wy128,wy130]⟩ ⟨[]⟩)]⟩ ⟨[]⟩),(.func (.yield (nat_lit 7)) ⟨[wi0,wi12,(.func (.yield (nat_lit 1)) ⟨[wi0,wy128,wy132]⟩ ⟨[]⟩)]⟩ ⟨[]⟩),(.func (.yield (nat_lit 6)) ⟨[wi0,wi0,(.func (.yield (nat_lit 2)) ⟨[wi0,wy133,wy135]⟩ ⟨[]⟩)]⟩ ⟨[]⟩),(.func (.yield (nat_lit 7)) ⟨[wi0,wi12,(.func (.yield (nat_lit 1)) ⟨[wi0,wy133,wy137]⟩ ⟨[]⟩)]⟩ ⟨[]⟩),(.func (.yield (nat_lit 1)) ⟨[wi0,wi10,wy138]⟩ ⟨[]⟩)]) (b := (.slice (some ⟨(nat_lit 36),(nat_lit 0),none⟩) (nat_lit 3) (nat_lit 18446744073709551618)) :: [(.func (.yield (nat_lit 1)) ⟨[wi0,wi1,wy100]⟩ ⟨[]⟩),wy102]) hl
  have e1 := DLs.only (.cons (.max (.lit _ _) (.sub (.add (.lit _ _) (.sym _ _)) (.sym _ _))) (.cons (.min (.lit _ _) (.add (.add (.lit _ _) (.sym _ _)) (.sym _ _))) (.cons (.max (.lit _ _) (.sub (.add (.lit _ _) (.sym _ _)) (.sym _ _))) (.cons (.min (.lit _ _) (.add (.add (.lit _ _) (.sym _ _)) (.sym _ _))) (.cons (.max (.lit _ _) (.sub (.add (.lit _ _) (.sym _ _)) (.sym _ _))) (.cons (.min (.lit _ _) (.add (.add (.lit _ _) (.sym _ _)) (.sym _ _))) (.cons (.max (.lit _ _) (.sub (.add (.lit _ _) (.sym _ _)) (.sym _ _))) (.cons (.min (.lit _ _) (.add (.add (.lit _ _) (.sym _ _)) (.sym _ _))) (.cons (.max (.lit _ _) (.sub (.add (.lit _ _) (.sym _ _)) (.sym _ _))) (.cons (.min (.lit _ _) (.add (.add (.lit _ _) (.sym _ _)) (.sym _ _))) (.cons (.max (.lit _ _) (.sub (.sym _ _) (.sym _ _))) (.cons (.min (.lit _ _) (.add (.sym _ _) (.sym _ _))) (.cons (.max (.lit _ _) (.sub (.sym _ _) (.sym _ _))) (.cons (.min (.lit _ _) (.add (.sym _ _) (.sym _ _))) (.cons (.add (.lit _ _) (.sym _ _)) .nil))))))))))))))) h1
  cases h2 with
  | cons hs h3 =>
    have e3 := DLs.only (.cons (.add (.lit _ _) (.sym _ _)) (.cons (.sym _ _) .nil)) h3
    subst e1 e3
    obtain ⟨r,cc,cp,rfl,hι⟩ := slUI hs
    obtain ⟨r',c',o,e1,e2,cs,t',rfl,e3,l',tl,e4,e5⟩ := hobj (nat_lit 36) (.cells [(.func (.yield (nat_lit 6)) ⟨[wi0,wm59,(.func (.yield (nat_lit 2)) ⟨[wi0,(.func (.yield (nat_lit 1)) ⟨[wi0,wm2,wy140]⟩ ⟨[]⟩),wy142]⟩ ⟨[]⟩)]⟩ ⟨[]⟩),(.func (.yield (nat_lit 7)) ⟨[wi0,wi60,(.func (.yield (nat_lit 1)) ⟨[wi0,(.func (.yield (nat_lit 1)) ⟨[wi0,wm2,wy140]⟩ ⟨[]⟩),wy144]⟩ ⟨[]⟩)]⟩ ⟨[]⟩),(.func (.yield (nat_lit 6)) ⟨[wi0,wm59,(.func (.yield (nat_lit 2)) ⟨[wi0,(.func (.yield (nat_lit 1)) ⟨[wi0,wm2,wy145]⟩ ⟨[]⟩),wy147]⟩ ⟨[]⟩)]⟩ ⟨[]⟩),(.func (.yield (nat_lit 7)) ⟨[wi0,wi60,(.func (.yield (nat_lit 1)) ⟨[wi0,(.func (.yield (nat_lit 1)) ⟨[wi0,wm2,wy145]⟩ ⟨[]⟩),wy149]⟩ ⟨[]⟩)]⟩ ⟨[]⟩),(.func (.yield (nat_lit 6)) ⟨[wi0,wm59,(.func (.yield (nat_lit 2)) ⟨[wi0,(.func (.yield (nat_lit 1)) ⟨[wi0,wm2,wy150]⟩ ⟨[]⟩),wy152]⟩ ⟨[]⟩)]⟩ ⟨[]⟩),(.func (.yield (nat_lit 7)) ⟨[wi0,wi60,(.func (.yield (nat_lit 1)) ⟨[wi0,(.func (.yield (nat_lit 1)) ⟨[wi0,wm2,wy150]⟩ ⟨[]⟩),wy154]⟩ ⟨[]⟩)]⟩ ⟨[]⟩)]) (by kernel_rfl)
    rw [hι] at e1
    cases e1
    have e6 := DLs.only (.cons (.max (.lit _ _) (.sub (.add (.lit _ _) (.sym _ _)) (.sym _ _))) (.cons (.min (.lit _ _) (.add (.add (.lit _ _) (.sym _ _)) (.sym _ _))) (.cons (.max (.lit _ _) (.sub (.add (.lit _ _) (.sym _ _)) (.sym _ _))) (.cons (.min (.lit _ _) (.add (.add (.lit _ _) (.sym _ _)) (.sym _ _))) (.cons (.max (.lit _ _) (.sub (.add (.lit _ _) (.sym _ _)) (.sym _ _))) (.cons (.min (.lit _ _) (.add (.add (.lit _ _) (.sym _ _)) (.sym _ _))) .nil)))))) e5
    subst e6
    refine ⟨some ⟨r,0,none⟩,cp,rfl,?_,hpot,hk⟩
    exact rg_of (l := (jobS s).take 3) e2 (by rw [e4]; rfl) (hbd _ _ _ hι)
theorem jobOf_any {s : Int} {b : Nat} {t : TypeId} {w : World} (hb : Bk w b t #[.int .u64 s]) : Calls Try.prog 10 #[.pointer (some ⟨b,0,none⟩),.int .i64 4,.int .i64 2] w fun e w' => ∃ n,n ≤ 3 ∧ JobEnd s b n w e w' := by
  have h := rb39 s
  rcases (by omega : res39 s = 0 ∨ res39 s = 1 ∨ res39 s = 2 ∨ res39 s = 3) with h | h | h | h
  · exact (job0 hb h).mono fun e w' q => ⟨0,by decide,q⟩
  · exact (job1 hb h).mono fun e w' q => ⟨1,by decide,q⟩
  · exact (job2 hb h).mono fun e w' q => ⟨2,by decide,q⟩
  · exact (job3 hb h).mono fun e w' q => ⟨3,by decide,q⟩
end
end Go.Sim.JG
/- JobOf(p, 4, 2), as the laws want it. -/
namespace Go.Proofs.Ytadmcafbffjjbaa
set_option linter.all false
open Go Go.RowKit
theorem job_JG : JobOKn 4 2 := by
  intro b w hp
  obtain ⟨t,s,hb⟩ := hp
  refine (Sim.JG.jobOf_any hb).mono ?_
  rintro e w' ⟨n,hn,a,c,rfl,hrg,hpt,hk⟩
  refine ⟨Sim.JG.jobJ s n,a,n,c,rfl,?_,hrg,Sim.JG.job_check s n,⟨hk.os,hk.tape,hk.output,hk.size,hk.heap⟩,hpt⟩
  show n = ((Sim.JD.jobS s).take n).length
  have : (Sim.JD.jobS s).length = 3 := rfl
  rw [List.length_take]
  omega
end Go.Proofs.Ytadmcafbffjjbaa
/- An argument that is a job, and one that is a range, opened to their numbers. -/
namespace Go.Proofs.Ytadmcafbffjjbaa
set_option linter.all false
open Go Go.ChangeShapes Go.WideShapes Go.ChangeAt Go.RowKit Go.Deep

section
variable {H : Type} {enc : TypeId × Value → H} {w : World} {base : Nat} {spare : Nat → Bool} {held : Bool}
theorem fld {t : TypeId} {fs : Array Field} {fuel : Nat} {cs : List Value} {x : DataW H × List MemPlace} (ht : Try.prog.underlying t = some (.struct fs)) (h : DataW.trod enc Try.prog w base spare held fuel t cs = some x) (i : Nat) (f : Field) (hf : fs[i]? = some f) :
    ∃ n y,DataW.trod enc Try.prog w base spare held n f.type ((cs.drop f.offset).take (Try.prog.cellsOf f.type)) = some y := by
  obtain ⟨xs,n,_,_,_,hl,hg⟩ := DataW.trod_struct ht h
  have := hg i f hf
  have hi : i < xs.length := by rw [hl]; exact (Array.getElem?_eq_some_iff.1 hf).1
  exact ⟨n,xs[i],this.trans (List.getElem?_eq_getElem hi)⟩
theorem oc1 : Try.prog.cellsOf 3 = 1 := by kernel_rfl
theorem oc2 : Try.prog.cellsOf 23 = 2 := by kernel_rfl
theorem oc6 : Try.prog.cellsOf 25 = 6 := by kernel_rfl
theorem oc9 : Try.prog.cellsOf 27 = 9 := by kernel_rfl
theorem ocS : Try.prog.cellsOf 28 = 1 := by kernel_rfl
theorem oc18 : Try.prog.cellsOf 30 = 18 := by kernel_rfl
theorem int_open {fuel : Nat} {x : Value} {z : DataW H × List MemPlace} (h : DataW.trod enc Try.prog w base spare held fuel 3 [x] = some z) : ∃ a,x = .int .i64 a ∧ (Lit.int .i64 a).wf = true := by
  obtain ⟨n,e,_,hw⟩ := DataW.trod_int Try.underlying3 h
  exact ⟨n,by simpa using e,hw⟩
theorem rng_open {fuel : Nat} {x y : Value} {z : DataW H × List MemPlace} (h : DataW.trod enc Try.prog w base spare held fuel 23 [x,y] = some z) : ∃ a b,x = .int .i64 a ∧ y = .int .i64 b := by
  obtain ⟨n0,y0,h0⟩ := fld Try.underlying23 h 0 _ rfl
  obtain ⟨n1,y1,h1⟩ := fld Try.underlying23 h 1 _ rfl
  simp [oc1] at h0 h1
  obtain ⟨a,rfl,_⟩ := int_open h0
  obtain ⟨b,rfl,_⟩ := int_open h1
  exact ⟨a,b,rfl,rfl⟩
theorem ton_open {fuel : Nat} {c0 c1 c2 c3 c4 c5 : Value} {z : DataW H × List MemPlace} (h : DataW.trod enc Try.prog w base spare held fuel 25 [c0,c1,c2,c3,c4,c5] = some z) :
    ∃ a0 a1 a2 a3 a4 a5,c0 = .int .i64 a0 ∧ c1 = .int .i64 a1 ∧ c2 = .int .i64 a2 ∧ c3 = .int .i64 a3 ∧ c4 = .int .i64 a4 ∧ c5 = .int .i64 a5 := by
  obtain ⟨n0,y0,h0⟩ := fld Try.underlying25 h 0 _ rfl
  obtain ⟨n1,y1,h1⟩ := fld Try.underlying25 h 1 _ rfl
  obtain ⟨n2,y2,h2⟩ := fld Try.underlying25 h 2 _ rfl
  simp [oc2] at h0 h1 h2
  obtain ⟨a0,a1,rfl,rfl⟩ := rng_open h0
  obtain ⟨a2,a3,rfl,rfl⟩ := rng_open h1
  obtain ⟨a4,a5,rfl,rfl⟩ := rng_open h2
  exact ⟨a0,a1,a2,a3,a4,a5,rfl,rfl,rfl,rfl,rfl,rfl⟩
theorem file_open {fuel : Nat} {c0 c1 c2 c3 c4 c5 c6 c7 c8 : Value} {z : DataW H × List MemPlace} (h : DataW.trod enc Try.prog w base spare held fuel 27 [c0,c1,c2,c3,c4,c5,c6,c7,c8] = some z) :
    ∃ a0 a1 a2 a3 a4 a5 a6 a7 a8,c0 = .int .i64 a0 ∧ c1 = .int .i64 a1 ∧ c2 = .int .i64 a2 ∧ c3 = .int .i64 a3 ∧ c4 = .int .i64 a4 ∧ c5 = .int .i64 a5 ∧ c6 = .int .i64 a6 ∧ c7 = .int .i64 a7 ∧ c8 = .int .i64 a8 := by
  obtain ⟨n0,y0,h0⟩ := fld Try.underlying27 h 0 _ rfl
  obtain ⟨n1,y1,h1⟩ := fld Try.underlying27 h 1 _ rfl
  obtain ⟨n2,y2,h2⟩ := fld Try.underlying27 h 2 _ rfl
  obtain ⟨n3,y3,h3⟩ := fld Try.underlying27 h 3 _ rfl
  obtain ⟨n4,y4,h4⟩ := fld Try.underlying27 h 4 _ rfl
  simp [oc1,oc2] at h0 h1 h2 h3 h4
  obtain ⟨a0,a1,rfl,rfl⟩ := rng_open h0
  obtain ⟨a2,a3,rfl,rfl⟩ := rng_open h1
  obtain ⟨a4,a5,rfl,rfl⟩ := rng_open h2
  obtain ⟨a6,a7,rfl,rfl⟩ := rng_open h3
  obtain ⟨a8,rfl,_⟩ := int_open h4
  exact ⟨a0,a1,a2,a3,a4,a5,a6,a7,a8,rfl,rfl,rfl,rfl,rfl,rfl,rfl,rfl,rfl⟩
def intV : Value → Int
  | .int _ n => n
  | _ => 0
theorem nospot {W : World} (a : Addr) {k : IntKind} {n : Int} (h0 : W.cell? a = some (.int k n)) : ∃ b o,a = ⟨b,o,none⟩ ∧ b < W.heap.size := by
  obtain ⟨ab,ao,asp⟩ := a
  have hs : asp = none ∧ ab < W.heap.size := by
    unfold World.cell? at h0
    cases hq : W.heap[ab]? with
    | none => simp only [hq] at h0; cases h0
    | some o =>
      refine ⟨?_,(Array.getElem?_eq_some_iff.1 hq).1⟩
      simp only [hq] at h0
      cases o with
      | cells cs t f =>
        cases asp with
        | none => rfl
        | some z => simp at h0
      | _ => simp at h0
  obtain ⟨rfl,hb⟩ := hs
  exact ⟨ab,ao,rfl,hb⟩
theorem add_plain (b o k : Nat) : (⟨b,o,none⟩ : Addr).add k = ⟨b,o + k,none⟩ := by
  unfold Addr.add
  split
  · rename_i hk0; subst hk0; rfl
  · rfl
theorem rgs_open {fuel : Nat} {v : Value} {z : DataW H × List MemPlace} (h : DataW.trod enc Try.prog w base spare held fuel 28 [v] = some z) :
    ∃ (a : Option Addr) (n c : Nat) (l : List R2),v = .slice a n c ∧ n = l.length ∧ n ≤ 9223372036854775807 ∧ Rg w w.heap.size a l := by
  rcases open_slice_pairs Try.underlying28 Try.underlying23 oc2 rfl rfl oc1 oc1 h with ⟨hcs,_⟩ | ⟨a,len,cap,m,n,V0,V1,D0,D1,P0,P1,hcs,_,hl,hm,hmm,_,hx⟩
  · exact ⟨none,0,0,[],by simpa using hcs,rfl,by decide,Rg.nil _ _ _⟩
  · have hv : v = .slice (some a) len cap := by simpa using hcs
    have hlm : len ≤ m := by rw [hmm]; split <;> omega
    refine ⟨some a,len,cap,(List.range len).map fun i => (intV (V0 i),intV (V1 i)),hv,by simp,by unfold maxLen at hm; omega,?_⟩
    intro k x hk
    have hkl : k < len := by simpa using (List.getElem?_eq_some_iff.1 hk).1
    have hx' : x = (intV (V0 k),intV (V1 k)) := by
      rw [List.getElem?_map,List.getElem?_range hkl] at hk
      simpa using hk.symm
    obtain ⟨e0,e1,t0,t1⟩ := hx k (by omega)
    obtain ⟨f0,_,s0,_⟩ := hx 0 (by omega)
    obtain ⟨i0,hi0,_⟩ := int_open t0
    obtain ⟨i1,hi1,_⟩ := int_open t1
    obtain ⟨j0,hj0,_⟩ := int_open s0
    rw [hi0] at e0
    rw [hi1] at e1
    rw [hj0] at f0
    have ez : a.add (0 * 2) = a := rfl
    rw [ez] at f0
    obtain ⟨ab,ao,rfl,hb⟩ := nospot a f0
    rw [add_plain] at e0 e1
    subst hx'
    refine ⟨ab,ao,rfl,hb,?_,?_⟩
    · rw [hi0]; exact e0
    · rw [hi1]; exact e1
set_option maxRecDepth 100000 in
theorem job_open {r : Reach} {b0 : Nat} {v : Value} {d : DataW H} {p : List MemPlace} (hv : Value.okWide Try.prog w r b0 30 v) (h : DataW.Trod enc Try.prog w base spare held 30 v d p) :
    ∃ (J : Jb) (a : Option Addr) (n c : Nat),v = .agg (jobC J (.slice a n c)) ∧ n = J.sh.length ∧ n ≤ 9223372036854775807 ∧ Rg w w.heap.size a J.sh := by
  obtain ⟨cs,rfl,hsz⟩ := okWide_struct Try.underlying30 hv
  obtain ⟨l⟩ := cs
  match l,hsz.trans oc18 with
  | [c0,c1,c2,c3,c4,c5,c6,c7,c8,c9,c10,c11,c12,c13,c14,c15,c16,c17],_ =>
    obtain ⟨fuel,hf⟩ := h
    obtain ⟨n0,y0,h0⟩ := fld Try.underlying30 hf 0 _ rfl
    obtain ⟨n1,y1,h1⟩ := fld Try.underlying30 hf 1 _ rfl
    obtain ⟨n2,y2,h2⟩ := fld Try.underlying30 hf 2 _ rfl
    obtain ⟨n3,y3,h3⟩ := fld Try.underlying30 hf 3 _ rfl
    obtain ⟨n4,y4,h4⟩ := fld Try.underlying30 hf 4 _ rfl
    simp [oc1,oc6,oc9,ocS,Value.cells] at h0 h1 h2 h3 h4
    obtain ⟨a0,a1,a2,a3,a4,a5,rfl,rfl,rfl,rfl,rfl,rfl⟩ := ton_open h0
    obtain ⟨b0,b1,b2,b3,b4,b5,b6,b7,b8,rfl,rfl,rfl,rfl,rfl,rfl,rfl,rfl,rfl⟩ := file_open h1
    obtain ⟨a,n,c,l,rfl,hn,hm,hrg⟩ := rgs_open h2
    obtain ⟨q,rfl,_⟩ := int_open h3
    obtain ⟨r,rfl,_⟩ := int_open h4
    exact ⟨⟨a0,a1,a2,a3,a4,a5,b0,b1,b2,b3,b4,b5,b6,b7,b8,q,r,l⟩,a,n,c,rfl,hn,hm,hrg⟩
end
end Go.Proofs.Ytadmcafbffjjbaa
