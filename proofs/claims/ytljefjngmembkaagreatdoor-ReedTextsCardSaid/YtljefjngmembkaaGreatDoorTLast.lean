/- Write and Read answer what the reference answers (ReedTexts). -/
import Derived.Carry
import Derived.Test.YtljefjngmembkaaGreatDoorCards
import Derived.Test.YtljefjngmembkaaGreatDoorTie
import Derived.ProofKit
import Derived.ChangeSlices
import Derived.ChangeMaps5
import Derived.LaidMore
import Derived.Lay
import Derived.OpenShut
import Derived.HandedShaped
import Derived.Shelf.Vars
import Derived.Stop.Joined
import Derived.Stop.LaidErr
import Derived.SevenTiedAt
import Derived.Test.YtljefjngmembkaaGreatDoorT10
import Derived.Test.YtljefjngmembkaaGreatDoorT33
import Derived.Test.YtljefjngmembkaaGreatDoorT34
namespace Go.Proofs.YtljefjngmembkaaGreatDoor
set_option linter.all false
open Go Go.ChangeMaps Go.ChangeShapes Go.WideShapes Go.ChangeAt Go.RowKit

theorem tuned8 : TunOK8 := by
  intro w h8
  refine (@Sim.closed_any Sim.Rho.zero Sim.Asm.none (@Sim.SymOK.none Sim.Rho.zero) Tryz.prog 5 8 .e _ _ _ _ (@Sim.root_ok Sim.Rho.zero Sim.Asm.none (@Sim.SymOK.none Sim.Rho.zero)) rfl (by kernel_rfl) (by kernel_rfl) w h8 (fun b o hb => by rw [Sim.Tr.get_e] at hb; cases hb) ⟨Nat.zero_le _,fun k _ h => absurd h (Nat.not_lt_zero _)⟩).mono ?_
  rintro e w' ⟨v',ι',rfl,hv,hk⟩
  cases hv
  exact ⟨rfl,hk.os,hk.tape,hk.output,hk.size,hk.heap⟩

theorem own : ownKnob Tryz.prog.godebug = none := by kernel_rfl
theorem laidOut : laidOutB Tryz.prog = true := by kernel_rfl
theorem cells3 : Tryz.prog.cellsOf 3 = 1 := by kernel_rfl

theorem handed_both {H : Type} {enc : TypeId × Value → H} {a : Assume} {C : Checked} {os : Os} {f : FuncId} {fn : Func} {s : ChangeSpec} {conds : List PathCond} {apart fresh handsOn again : Bool} {X : World → Array Value → Prop}
    (hX : ∀ (w w' : World) (args : Array Value),w.heap = w'.heap → X w args → X w' args)
    (own : ownKnob C.prog.godebug = none) (started : os.Started) (noInit : C.prog.inits.idxOf? f = none) (hfn : C.prog.funcs[f]? = some fn)
    (witness : ∃ (w : World) (tape : Tape) (i : Input),w.os = os ∧ (w.forCall tape i).Shaped C.prog ∧ i.vars = [] ∧ Input.okWide C.prog (w.forCall tape i) .any w.heap.size f i ∧
      ((s.pre enc C.prog fn conds apart (w.forCall tape i).memory i.args ∧ X (w.forCall tape i).memory i.args) ∧ sizedMet enc C.prog fn (OpenSpec.ofChange s) apart (w.forCall tape i).memory i.args) ∧ a.holds C.prog (lone (Frame.enter C.prog f i.args .normal) [] (w.forCall tape i)))
    (contract : ∀ (W : World) (base : Nat) (args : Array Value) (ds gs : List (DataW H)) (before : List MemPlace),
      (∀ (j : Nat) t v,fn.params[j]? = some t → args[j]? = some v → Value.okWide C.prog W .any base t v) →
      DataW.Whole enc C.prog fn.params.toList s.vars apart W args.toList ds gs before → X W args → W.ShapedOpen C.prog →
      Calls C.prog f args W fun e W' => ∃ v,e = .returned v ∧ s.post enc C.prog fn apart fresh handsOn again W args v W') :
    ReturnsInHanded a C os f .any (fun w args => (s.pre enc C.prog fn conds apart w args ∧ X w args) ∧ sizedMet enc C.prog fn (OpenSpec.ofChange s) apart w args) (s.post enc C.prog fn apart fresh handsOn again) := by
  refine returnsInHanded_of_calls own started noInit witness ?_
  intro w tape i _ hsh _ hok hpre hholds
  obtain ⟨_,_,_,fn',hfn',_,_,_,_,hval⟩ := hok
  obtain rfl : fn' = fn := Option.some.inj (hfn'.symm.trans hfn)
  obtain ⟨⟨⟨ds,gs,before,hw,hc⟩,hx⟩,hz⟩ := hpre
  refine (contract (w.forCall tape i) w.heap.size i.args ds gs before hval (DataW.Whole.of_heap (w' := w.forCall tape i) (by rfl) hw) (hX _ _ _ (by rfl) hx) hsh).mono fun e W' ⟨v,he,hp⟩ => ?_
  subst he
  exact ChangeSpec.post_blind hp

theorem drop_met {l : List (String × DataW Unit)} {w : World} (h : laidMet Tryz.prog l w) : ∀ n,laidMet Tryz.prog (l.drop n) w
  | 0 => h
  | n + 1 => by
    have h' := drop_met h n
    rw [show l.drop (n + 1) = (l.drop n).drop 1 by rw [List.drop_drop]]
    cases hq : l.drop n with
    | nil => rw [hq] at h'; exact h'
    | cons x r => rw [hq] at h'; exact laidMet.tail h'
def isIfc : DataW Unit → Bool
  | .iface _ _ => true
  | _ => false
theorem err_at {l : List (String × DataW Unit)} {W : World} (h : laidMet Tryz.prog l W) {g t : Nat} {ms : Array (String × TypeId)}
    (hn : l.head?.map (fun x => (Tryz.prog.globalNamed x.1,isIfc x.2)) = some (some g,true)) (ht : (Tryz.prog.globals[g]?).map (·.type) = some t) (hu : Tryz.prog.underlying t = some (.interface ms)) :
    ∃ ev : Value,W.cell? ⟨g,0,none⟩ = some ev ∧ (ev = .nilIface ∨ ∃ te pe,ev = .iface te pe) := by
  cases l with
  | nil => cases hn
  | cons x r =>
    obtain ⟨nm,d⟩ := x
    simp only [List.head?_cons,Option.map_some,Option.some.injEq,Prod.mk.injEq] at hn
    obtain ⟨hg0,hi⟩ := hn
    obtain ⟨ps,⟨g',t',cs,fuel,p,q,hg,ht',hv,hd,_,_⟩,_,_⟩ := h
    obtain rfl := Option.some.inj (hg0.symm.trans hg)
    obtain rfl := Option.some.inj (ht.symm.trans ht')
    cases d <;> first | (cases hi; done) | skip
    obtain ⟨f2,u,v,hcs,_,_⟩ := iface_of_trod hu hd
    refine ⟨.iface u v,?_,.inr ⟨u,v,rfl⟩⟩
    have h0 := World.var?_cell hg hv 0
    rw [Array.eq_one_of_toList hcs] at h0
    simpa using h0
theorem var_lt {w : World} {name : String} {g : Nat} {cs : Array Value} (hg : Tryz.prog.globalNamed name = some g) (h : w.var? Tryz.prog name = some cs) : g < w.heap.size := by
  unfold World.var? at h
  rw [hg] at h
  simp only [Option.bind_some] at h
  cases hq : w.heap[g]? with
  | none => rw [hq] at h; cases h
  | some o => exact (Array.getElem?_eq_some_iff.1 hq).1
theorem laid_lt {l : List (String × DataW Unit)} {W : World} (h : laidMet Tryz.prog l W) {g : Nat} (hn : l.head?.map (fun x => Tryz.prog.globalNamed x.1) = some (some g)) : g < W.heap.size := by
  cases l with
  | nil => cases hn
  | cons x r =>
    obtain ⟨nm,d⟩ := x
    simp only [List.head?_cons,Option.map_some,Option.some.injEq] at hn
    obtain ⟨ps,⟨g',t',cs,fuel,p,q,hg,ht',hv,hd,_,_⟩,_,_⟩ := h
    exact var_lt hn hv
theorem gsize : Tryz.prog.globals.size = 8 := by kernel_rfl
theorem gl_lt : 1 < Tryz.prog.globals.size := by rw [gsize]; decide
theorem of_laid {W : World} (h : laidMetH Tryz.prog Rows.reedTextsRow.laid W) (hsh : W.ShapedOpen Tryz.prog) : LibW W := by
  rw [MakeChecks.laidMetH_plain _ _ _ (by kernel_rfl)] at h
  have ht := drop_met h 2
  have hr := drop_met h 4
  have hs := drop_met h 5
  have e2 : Rows.reedTextsRow.laid.drop 2 = ("internal/strconv.uint64pow10",Lib.tabData .u64 Lib.pow10Tab) :: Rows.reedTextsRow.laid.drop 3 := by kernel_rfl
  rw [e2] at ht
  refine ⟨Lib.tabIs_of_head (P := Tryz.prog) (g := 0) (t := 159) (e := 65) (n := 20) (by kernel_rfl) (by kernel_rfl) (by kernel_rfl) (by kernel_rfl) (by kernel_rfl) (by kernel_rfl) ht,laid_lt hr (g := 7) (by kernel_rfl),?_,err_at hs (g := 6) (t := 138) (by kernel_rfl) (by kernel_rfl) Tryz.underlying138,err_at hr (g := 7) (t := 138) (by kernel_rfl) (by kernel_rfl) Tryz.underlying138⟩
  exact cell_of_shapedOpen_int (P := Tryz.prog) (t := 3) (zero := #[.int .i64 0]) hsh gl_lt (by kernel_rfl) rfl (by kernel_rfl) (by kernel_rfl) (by kernel_rfl)

theorem trodAll_six {H : Type} {enc : TypeId × Value → H} {P : Program} {w : World} {base : Nat} {spare : Nat → Bool} {held : Bool} {t0 t1 t2 t3 t4 t5 : TypeId} {args : Array Value} {ds : List (DataW H)} {ps : List MemPlace} (h : DataW.TrodAll enc P w base spare held [t0,t1,t2,t3,t4,t5] args.toList ds ps) :
    ∃ v0 v1 v2 v3 v4 v5 d0 d1 d2 d3 d4 d5 p0 p1 p2 p3 p4 p5,args = #[v0,v1,v2,v3,v4,v5] ∧ ds = [d0,d1,d2,d3,d4,d5] ∧ ps = p0 ++ (p1 ++ (p2 ++ (p3 ++ (p4 ++ p5)))) ∧ DataW.Trod enc P w base spare held t0 v0 d0 p0 ∧ DataW.Trod enc P w base spare held t1 v1 d1 p1 ∧ DataW.Trod enc P w base spare held t2 v2 d2 p2 ∧ DataW.Trod enc P w base spare held t3 v3 d3 p3 ∧ DataW.Trod enc P w base spare held t4 v4 d4 p4 ∧ DataW.Trod enc P w base spare held t5 v5 d5 p5 := by
  obtain ⟨l⟩ := args
  obtain ⟨v0,l0,d0,e0,p0,q0,rfl,rfl,rfl,h0,h⟩ := trodAll_cons h
  obtain ⟨v1,l1,d1,e1,p1,q1,rfl,rfl,rfl,h1,h⟩ := trodAll_cons h
  obtain ⟨v2,l2,d2,e2,p2,q2,rfl,rfl,rfl,h2,h⟩ := trodAll_cons h
  obtain ⟨v3,l3,d3,e3,p3,q3,rfl,rfl,rfl,h3,h⟩ := trodAll_cons h
  obtain ⟨v4,l4,d4,e4,p4,q4,rfl,rfl,rfl,h4,h⟩ := trodAll_cons h
  obtain ⟨v5,l5,d5,e5,p5,q5,rfl,rfl,rfl,h5,h⟩ := trodAll_cons h
  obtain ⟨rfl,rfl,rfl⟩ := trodAll_nil h
  exact ⟨v0,v1,v2,v3,v4,v5,d0,d1,d2,d3,d4,d5,p0,p1,p2,p3,p4,p5,rfl,rfl,by simp,h0,h1,h2,h3,h4,h5⟩
set_option maxRecDepth 100000 in
theorem lifted (os : Os) (started : os.Started) (H : Type) (enc : TypeId × Value → H) :
    ReturnsInHanded {} Tryz.checked os 3 .any (fun w args => (Rows.reedTextsSpec.pre enc Tryz.prog Tryz.f3 [] false w args ∧ laidMetH Tryz.prog Rows.reedTextsRow.laid w) ∧ sizedMet enc Tryz.prog Tryz.f3 (OpenSpec.ofChange Rows.reedTextsSpec) false w args)
      (Rows.reedTextsSpec.post enc Tryz.prog Tryz.f3 false true false false) := by
  refine handed_both (C := Tryz.checked) (X := fun w _ => laidMetH Tryz.prog Rows.reedTextsRow.laid w) (fun _ _ _ hh h => h.of_heap hh) own started (by kernel_rfl) Tryz.func3
    (ChangeSpec.witness_shaped (enc := enc) (C := Tryz.checked) (os := os) (X := fun w _ => laidMetH Tryz.prog Rows.reedTextsRow.laid w) false (World.laidAll Tryz.prog os Rows.reedTextsRow.laid) #[.agg (jobC ⟨0,0,0,0,0,0,0,0,0,0,0,0,0,0,0,0,0,[]⟩ (.slice none 0 0)),.string ⟨#[]⟩,.slice none 0 0,.int .i64 0,.int .i64 0,.int .u8 0] 8 (World.laidAll_os _ _ _)
      (World.shaped_of_ZipB (by kernel_rfl) (by kernel_rfl)) (by kernel_rfl) (by kernel_rfl) (by kernel_rfl)
      (by rw [MakeChecks.laidMetH_plain _ _ _ (by kernel_rfl)]; exact laidMet_laidAll _ (by kernel_rfl) (by kernel_rfl))) ?_
  intro W base args ds gs before hval0 hW hL hsh
  have hval : ∀ (j : Nat) t v,Tryz.f3.params[j]? = some t → args[j]? = some v → Value.okWide Tryz.prog W .any base t v := hval0
  have hW' := hW
  obtain ⟨p,q,hA0,hV,rfl,hfz,hnd⟩ := hW
  have hA : DataW.TrodAll enc Tryz.prog W 0 (fun _ => true) true Tryz.f3.params.toList args.toList ds p := hA0
  rw [Tryz.params3] at hA hval
  obtain ⟨v0,v1,v2,v3,v4,v5,d0,d1,d2,d3,d4,d5,p0,p1,p2,p3,p4,p5,rfl,rfl,rfl,h0,h1,h2,h3,h4,h5⟩ := trodAll_six hA
  obtain ⟨rfl,rfl⟩ := trodVars_none hV
  have h0k := h0
  have h1k := h1
  have h2k := h2
  have h3k := h3
  have h4k := h4
  have h5k := h5
  obtain ⟨X,xa,xn,xc,rfl,hxn,hxm,hxr⟩ := job_open (hval 0 _ _ rfl rfl) h0
  obtain ⟨s,rfl,rfl,rfl,hs⟩ := open_string Tryz.underlying9 (hval 1 9 v1 rfl rfl) h1
  obtain ⟨a0,len,cap,rfl⟩ := okWide_slice Tryz.underlying31 (hval 2 31 v2 rfl rfl)
  have hint3 : ∃ r,v3 = .int .i64 r ∧ (-9223372036854775808 ≤ r ∧ r ≤ 9223372036854775807) := by
    obtain ⟨r,rfl,_,_,hw⟩ := open_int Tryz.underlying3 (hval 3 _ _ rfl rfl) h3
    refine ⟨r,rfl,?_⟩
    simp [Lit.wf,IntKind.min,IntKind.max,IntKind.bits,IntKind.signed] at hw
    exact hw
  have hint4 : ∃ r,v4 = .int .i64 r := by
    obtain ⟨r,rfl,_,_,hw⟩ := open_int Tryz.underlying3 (hval 4 _ _ rfl rfl) h4
    exact ⟨r,rfl⟩
  have hint5 : ∃ r,v5 = .int .u8 r ∧ (0 ≤ r ∧ r ≤ 255) := by
    obtain ⟨r,rfl,_,_,hw⟩ := open_int Tryz.underlying5 (hval 5 _ _ rfl rfl) h5
    refine ⟨r,rfl,?_⟩
    simp [Lit.wf,IntKind.min,IntKind.max,IntKind.bits,IntKind.signed] at hw
    exact hw
  obtain ⟨at_,rfl,hat⟩ := hint3
  obtain ⟨kind,rfl⟩ := hint4
  obtain ⟨by_,rfl,hby⟩ := hint5
  obtain ⟨fuel,hf⟩ := h2
  clear hA0 hval0
  simp only [List.append_nil] at hW'
  have hlt : ∀ x ∈ p0 ++ ([] ++ (p2 ++ (p3 ++ (p4 ++ p5)))),x.block < W.heap.size := fun x hx => by simpa using hW'.lt x hx
  have key : ∃ l : List Int,len = l.length ∧ len ≤ 9223372036854775807 ∧ Is W W.heap.size a0 l := by
    rcases open_ints Tryz.underlying31 Tryz.underlying3 cells3 hf with ⟨hcs,hx⟩ | ⟨a,len',cap',zs,hcs,_,hl,hm,hz,hx,hcell,hwz⟩
    · simp [Value.cells] at hcs
      obtain ⟨rfl,rfl,rfl⟩ := hcs
      exact ⟨[],rfl,Nat.zero_le _,Is.nil _ _ _⟩
    · simp [Value.cells] at hcs
      obtain ⟨rfl,rfl,rfl⟩ := hcs
      simp only [if_true] at hz
      refine ⟨zs.take len,by rw [List.length_take]; omega,by unfold maxLen at hm; omega,fun k x hk => ?_⟩
      have hk1 : k < (zs.take len).length := (List.getElem?_eq_some_iff.1 hk).1
      rw [List.length_take] at hk1
      have hk2 : zs[k]? = some x := by rw [List.getElem?_take_of_lt (by omega)] at hk; exact hk
      have hc := hcell k (by omega)
      have hd : zs.getD k 0 = x := by rw [List.getD,hk2]; rfl
      rw [hd] at hc
      have h0 := hcell 0 (by omega)
      obtain ⟨ab,ao,asp⟩ := a
      have e0 : (⟨ab,ao,asp⟩ : Addr).add 0 = ⟨ab,ao,asp⟩ := rfl
      rw [e0] at h0
      have hs : asp = none ∧ ab < W.heap.size := by
        unfold World.cell? at h0
        cases hq : W.heap[ab]? with
        | none => simp only [hq] at h0; cases h0
        | some o =>
          refine ⟨?_,(Array.getElem?_eq_some_iff.1 hq).1⟩
          simp only [hq] at h0
          cases o with
          | cells cs t f =>
            cases asp with
            | none => rfl
            | some z => simp at h0
          | _ => simp at h0
      obtain ⟨rfl,hb⟩ := hs
      refine ⟨ab,ao,rfl,hb,?_⟩
      have ek : (⟨ab,ao,none⟩ : Addr).add k = ⟨ab,ao + k,none⟩ := by
        unfold Addr.add
        split
        · rename_i hk0; subst hk0; rfl
        · rfl
      rw [ek] at hc
      exact hc
  obtain ⟨l,hl,hm,his⟩ := key
  refine (texts_law tuned8 X xa xn xc s a0 len cap l at_ kind by_ W hxn hxm hxr ⟨hl,hm⟩ his hat hby (of_laid hL hsh)).mono fun e W' ⟨he,hw⟩ => ?_
  subst he
  have b0 := Below.trod laidOut (by kernel_rfl) (of_decide_eq_true (by kernel_rfl)) h0k hw (fun x hx => hlt x (by simp [hx]))
  have b2 := Below.trod laidOut (by kernel_rfl) (of_decide_eq_true (by kernel_rfl)) h2k hw (fun x hx => hlt x (by simp [hx]))
  have b3 := Below.trod laidOut (by kernel_rfl) (of_decide_eq_true (by kernel_rfl)) h3k hw (fun x hx => hlt x (by simp [hx]))
  have b4 := Below.trod laidOut (by kernel_rfl) (of_decide_eq_true (by kernel_rfl)) h4k hw (fun x hx => hlt x (by simp [hx]))
  have b5 := Below.trod laidOut (by kernel_rfl) (of_decide_eq_true (by kernel_rfl)) h5k hw (fun x hx => hlt x (by simp [hx]))
  refine ⟨_,rfl,_,_,_,[],p0 ++ ([] ++ (p2 ++ (p3 ++ (p4 ++ p5)))),[],by simpa using hW',?_,?_,?_,hw.frame _,fun h => by cases h⟩
  · exact trodAll_mk1 (shut_bool Tryz.underlying4 true)
  · exact trodAll_cons_mk b0 (trodAll_cons_mk (shut_string Tryz.underlying9 hs) (trodAll_cons_mk b2 (trodAll_cons_mk b3 (trodAll_cons_mk b4 (trodAll_mk1 b5)))))
  · rfl

theorem reedTexts_holds : Rows.ReedTextsSaid :=
  OpenClaim.holds_of_wide 3 Tryz.f3 rfl rfl rfl rfl rfl rfl rfl ⟨rfl,rfl,rfl,rfl,rfl⟩ rfl rfl rfl rfl rfl (by kernel_rfl) Tryz.func3 (by kernel_rfl)
    (of_decide_eq_true (by kernel_rfl)) (by unfold Func.isWrapper; first | (rw [if_pos (by decide +kernel)]; kernel_rfl) | (rw [if_neg (by decide +kernel)]; exact ⟨rfl,rfl⟩))
    (fun os started H enc _ => lifted os started H enc)

theorem reedTexts_card : Rows.ReedTextsCardSaid :=
  Claim7.holds_tied_plain_at .later [] [.data,.data,.data,.data,.sentinel,.sentinel,.pinned] true Rows.reedTextsCard.stood.harness true
    reedTexts_holds (fun _ h => by cases h) (by kernel_rfl) (fun _ h => by cases h) reedTexts_row_tie rfl ⟨rfl,rfl⟩ (by kernel_rfl) rfl
    (fun f fn hf hfn => by
      obtain rfl : f = 3 := Option.some.inj ((show Tryz.prog.funcNamed Rows.reedTextsRow.func = some 3 by kernel_rfl).symm.trans hf) |>.symm
      obtain rfl : fn = Tryz.f3 := (Option.some.inj (Tryz.func3.symm.trans hfn)).symm
      exact ⟨by kernel_rfl,fun j t ht => by
        rw [Tryz.params3] at ht
        have hm : t ∈ [30,9,31,3,3,5] := by simpa using Array.mem_of_getElem? ht
        have hall : ([30,9,31,3,3,5].all fun u => !Tryz.prog.wantsStandIn u) = true := by kernel_rfl
        exact (show Tryz.prog.wantsStandIn t = false by simpa using List.all_eq_true.1 hall t hm)⟩)
    (by kernel_rfl)
#print axioms reedTexts_card
end Go.Proofs.YtljefjngmembkaaGreatDoor
