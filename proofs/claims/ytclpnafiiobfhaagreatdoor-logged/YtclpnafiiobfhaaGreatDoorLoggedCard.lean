import Derived.Test.YtclpnafiiobfhaaGreatDoorCards
import Derived.Test.YtclpnafiiobfhaaGreatDoorTie
import Derived.Test.YtclpnafiiobfhaaGreatDoorQ53
set_option linter.unusedVariables false
set_option linter.unusedSimpArgs false
set_option maxRecDepth 100000
namespace Go.Proofs.YtclpnafiiobfhaaGreatDoor
open Go.ChangeShapes Go.WideShapes Go.ChangeAt Go.RowKit
theorem zD6 {H:Type} {enc:TypeId×Value->H} {C:Checked} {os:Os} {f:FuncId} {fn:Func} {s:ChangeSpec} {zAy:List PathCond} {apart fresh handsOn again:Bool} {X:World->Array Value->Prop}
 (hX:∀(w w':World) (args:Array Value),w.heap=w'.heap->X w args->X w' args)
 (own:ownKnob C.prog.godebug=none) (started:os.Started) (noInit:C.prog.inits.idxOf? f=none) (hfn:C.prog.funcs[f]? =some fn)
 (witness:∃(w:World) (tape:Tape) (i:Input),w.os=os/\(w.forCall tape i).Shaped C.prog/\i.vars=[]/\Input.okWide C.prog (w.forCall tape i) .any w.heap.size f i/\
   ((s.pre enc C.prog fn zAy apart (w.forCall tape i).memory i.args/\X (w.forCall tape i).memory i.args)/\sizedMet enc C.prog fn (OpenSpec.ofChange s) apart (w.forCall tape i).memory i.args)/\({}:Assume).holds C.prog (lone (Frame.enter C.prog f i.args .normal) [] (w.forCall tape i)))
 (contract:∀(W:World) (base:Nat) (args:Array Value) (ds gs:List (DataW H)) (before:List MemPlace),
   (∀(j:Nat) t v,fn.params[j]? =some t->args[j]? =some v->Value.okWide C.prog W .any base t v)->
   DataW.Whole enc C.prog fn.params.toList s.vars apart W args.toList ds gs before->
   X W args->W.ShapedOpen C.prog->sizedMet enc C.prog fn (OpenSpec.ofChange s) apart W args->
   Calls C.prog f args W fun e W'=>∃v,e= .returned v/\s.post enc C.prog fn apart fresh handsOn again W args v W'):
 ReturnsInHanded {} C os f .any (fun w args=>(s.pre enc C.prog fn zAy apart w args/\X w args)/\sizedMet enc C.prog fn (OpenSpec.ofChange s) apart w args) (s.post enc C.prog fn apart fresh handsOn again):=by
 refine returnsInHanded_of_calls own started noInit witness ?_
 intro w tape i _ hsh _ hok hpre hholds
 obtain⟨_,_,_,fn',hfn',_,_,_,_,hval⟩:=hok
 have e:fn'=fn:=Option.some.inj (hfn'.symm.trans hfn)
 subst e
 obtain⟨⟨⟨ds,gs,before,hw,hc⟩,hx⟩,hz⟩:=hpre
 have hw':=DataW.Whole.of_heap (w':=w.forCall tape i) (by rfl) hw
 refine(contract (w.forCall tape i) w.heap.size i.args ds gs before hval hw' (hX _ _ _ (by rfl) hx) hsh (sizedMet.of_heap (by rfl) hz)).mono fun e W' ⟨v,he,hp⟩=> ?_
 subst he
 exact ChangeSpec.post_blind hp
def zJi (w:World):World:=({w with heap:=w.heap.modify 0 fun
 | .cells _ t frozen=> .cells #[.iface 207 (.agg #[.pointer (some ⟨7,52,none⟩)])] t frozen
 |o=>o}:World)
def zEq (P:Program) (l:List (String×DataW Unit)) (w:World):World:=(zJi w).layVars P (l.filter fun x=>x.2.handleName?.isNone)
theorem zIf (os:Os):(zEq Tryz.prog Rows.loggedRow.laid (World.holding Tryz.prog os ⟨#[],#[],[]⟩)).os=os:=World.layVars_os _ _ _
theorem zEx:(Rows.loggedRow.laid.filter fun x=>x.2.handleName?.isNone).filter (fun x=>((Rows.loggedRow.laid.filter fun x=>x.2.handleName?.isNone).map (·.1)).contains x.1)=(Rows.loggedRow.laid.filter fun x=>x.2.handleName?.isNone):=List.filter_eq_self.2 fun x hx=>List.contains_iff_mem.2 (List.mem_map.2 ⟨x,hx,rfl⟩)
theorem zOB:(Rows.loggedRow.laid.filter fun x=>x.2.handleName?.isNone).filter (fun x=> !((Rows.loggedRow.laid.filter fun x=>x.2.handleName?.isNone).map (·.1)).contains x.1)=[]:=List.filter_eq_nil_iff.2 fun x hx=>by rw[List.contains_iff_mem.2 (List.mem_map.2 ⟨x,hx,rfl⟩)];simp
theorem zGV (os:Os) (args:Array Value):laidMetH Tryz.prog Rows.loggedRow.laid ((zEq Tryz.prog Rows.loggedRow.laid (World.holding Tryz.prog os ⟨#[],#[],[]⟩)).forCall (fun _ _=>0) ⟨#[],args,[]⟩).memory:=by
 refine laidMetH_of_parts ?_ (by kernel_rfl)
 have h:laidMet Tryz.prog (Rows.loggedRow.laid.filter fun x=>x.2.handleName?.isNone) (zEq Tryz.prog Rows.loggedRow.laid (World.holding Tryz.prog os ⟨#[],#[],[]⟩)):=laidMet_layVars (w0:=zJi (World.holding Tryz.prog os ⟨#[],#[],[]⟩)) ((Rows.loggedRow.laid.filter fun x=>x.2.handleName?.isNone).map (·.1)) [] (by rw[zEx];rfl) (by rw[zEx];kernel_rfl) (by rw[zEx];kernel_rfl) (by rw[zOB];exact LaidIn.none)
 exact h.of_heap (by simp[World.memory,World.forCall,Input.heap])
theorem zGW (os:Os) (started:os.Started) (H:Type) (enc:TypeId×Value->H):
 ReturnsInHanded {} Tryz.checked os 6 .any (fun w args=>(Rows.loggedSpec.pre enc Tryz.prog Tryz.f6 [] false w args/\laidMetH Tryz.prog Rows.loggedRow.laid w)/\sizedMet enc Tryz.prog Tryz.f6 (OpenSpec.ofChange Rows.loggedSpec) false w args)
  (Rows.loggedSpec.post enc Tryz.prog Tryz.f6 false true false false):=by
 refine zD6 (C:=Tryz.checked) (X:=fun w _=>laidMetH Tryz.prog Rows.loggedRow.laid w) (fun _ _ _ hh h=>h.of_heap hh) Tryz.own started (by kernel_rfl) Tryz.func6
  (zJS (enc:=enc) (C:=Tryz.checked) (os:=os) (X:=fun w _=>laidMetH Tryz.prog Rows.loggedRow.laid w) (zEq Tryz.prog Rows.loggedRow.laid (World.holding Tryz.prog os ⟨#[],#[],[]⟩)) #[.slice none 0 0] 8 (zIf os) (World.shaped_of_ZipB (by kernel_rfl) (by kernel_rfl)) (by kernel_rfl) (by kernel_rfl) (by kernel_rfl) (zGV os _)) ?_
 intro W base args ds gs before hval0 hW hL hS hZ
 have hval:∀(j:Nat) t v,Tryz.f6.params[j]? =some t->args[j]? =some v->Value.okWide Tryz.prog W .any base t v:=hval0
 have hW':=hW
 obtain⟨p,q,hA0,hV0,rfl,hfz,hnd⟩:=hW
 have hA:DataW.TrodAll enc Tryz.prog W 0 (fun _=>true) true Tryz.f6.params.toList args.toList ds p:=hA0
 have hV:DataW.TrodVars enc Tryz.prog W (fun _=>true) [] gs q:=hV0
 rw[Tryz.params6] at hA hval
 obtain⟨v0,vs0,d0,ds0,p0,q0,hargs,rfl,rfl,h0,r0⟩:=trodAll_cons hA
 obtain⟨rfl,rfl,rfl⟩:=trodAll_nil r0
 obtain rfl:args= #[v0]:=by cases args;simp_all
 obtain⟨pa,ops,cc,rfl,hscr,hlen,hplc,hops⟩:=zPZ (hval 0 48 _ rfl rfl) h0
 have hL2:laidMet Tryz.prog (Rows.loggedRow.laid.filter fun x=>x.2.handleName?.isNone) W/\handlesMet Tryz.prog [("errors.errorType",Rows.laid_errors_errorType)] W:=hL
 have hg:zBU W:=zQv (show laidMet Tryz.prog [] W/\handlesMet Tryz.prog [("errors.errorType",Rows.laid_errors_errorType)] W from⟨laidMet_nil _ _,hL2.2⟩)
 obtain⟨rfl,rfl⟩:gs=[]/\q=[]:=by
  cases gs with
  |nil=>exact⟨rfl,hV⟩
  |cons g r=>exact absurd hV (by intro h;cases h)
 have hwt:=hZ.weights hW'
 have hok:∀o ∈ ops,o.Ok:=fun o ho=>by
  obtain⟨q1,q2,q3⟩:=hops o ho
  refine⟨q1,q2,?_⟩
  have hx:=List.all_eq_true.1 hwt o.s.size (by
   rw[Tryz.params6]
   exact List.mem_append_left _ q3)
  have:=of_decide_eq_true hx
  unfold reachBytes at this
  omega
 have e1:Rows.loggedSpec.fn H ([d0]++[])={results:=[.lit (.bool true)],args:=[d0]}:=by simp[Rows.loggedSpec]
 refine(zLT W hg (zQw hS) pa cc ops hscr hok hlen).mono fun e W' ⟨he,bel⟩=> ?_
 subst he
 refine⟨_,rfl,_,_,_,[],p0,[],hW',?_,?_,?_,bel.frame _,fun h=>by cases h⟩
 ·rw[e1];exact trodAll_mk1 (shut_bool Tryz.underlying4 true)
 ·rw[e1];exact trodAll_mk1 (Below.trod Tryz.laidOutOk (by kernel_rfl) (of_decide_eq_true (by kernel_rfl)) h0 bel hplc)
 ·rw[e1];rfl
theorem zSM {a b:Bool} (ha:a=true) (hb:b=true):(a&&b)=true:=by rw[ha,hb];rfl
theorem zLY:(Rows.loggedRow.inPlace == Tryz.prog.inPlace 6)=true:=by kernel_rfl
theorem zLZ:(Rows.loggedRow.unfollowed == Tryz.prog.unfollowed 6)=true:=by kernel_rfl
theorem zLa:(Rows.loggedRow.recurses == Tryz.prog.recurses 6)=true:=by kernel_rfl
theorem zLb:(Rows.loggedRow.named == Tryz.prog.varsNamed 6)=true:=by kernel_rfl
theorem zLc:Tryz.prog.funcNamed "firewall/firewalllaw.Logged"=some 6:=by kernel_rfl
theorem zLd:mapsRowed Tryz.prog=true:=by kernel_rfl
theorem zLe:Tryz.prog.stopsHeard=true:=by kernel_rfl
theorem zLf:Tryz.prog.mayEnter=true:=by kernel_rfl
theorem zHF:joinedFacts Tryz.prog 6 Tryz.f6 Rows.loggedSpec Rows.loggedRow=true:=by
 unfold joinedFacts
 iterate 31 refine zSM ?_ ?_
 ·kernel_rfl
 ·exact Tryz.laidOutOk
 ·exact zLd
 ·kernel_rfl
 ·kernel_rfl
 ·kernel_rfl
 ·kernel_rfl
 ·kernel_rfl
 ·kernel_rfl
 ·exact zLY
 ·exact zLZ
 ·exact zLa
 ·exact zLb
 ·kernel_rfl
 ·kernel_rfl
 ·kernel_rfl
 ·kernel_rfl
 ·kernel_rfl
 ·kernel_rfl
 ·kernel_rfl
 ·kernel_rfl
 ·kernel_rfl
 ·kernel_rfl
 ·kernel_rfl
 ·exact zLe
 ·exact zLf
 ·kernel_rfl
 ·kernel_rfl
 ·kernel_rfl
 ·kernel_rfl
 ·kernel_rfl
 ·kernel_rfl
theorem zHG:Rows.LoggedSaid:=
 OpenClaim.holds_of_wide 6 Tryz.f6 rfl rfl rfl rfl rfl rfl rfl ⟨rfl,rfl,rfl,rfl,rfl⟩ rfl rfl rfl rfl rfl zLc Tryz.func6 zHF
  (of_decide_eq_true (by kernel_rfl)) (by unfold Func.isWrapper;rw[if_neg (of_decide_eq_false (by kernel_rfl))];exact⟨rfl,rfl⟩)
  (fun os started H enc _=>zGW os started H enc)
theorem logged_card:Rows.LoggedCardSaid:=
 Claim7.holds_tied_plain_at .later [] _ _ _ _
  zHG (fun _ h=>by cases h) (by kernel_rfl) (fun _ h=>by cases h) logged_row_tie rfl ⟨rfl,rfl⟩ (by kernel_rfl) rfl
  (fun f fn hf hfn=>by
    obtain rfl:f=6:=Option.some.inj ((show Tryz.prog.funcNamed "firewall/firewalllaw.Logged"=some 6 by kernel_rfl).symm.trans hf) |>.symm
    obtain rfl:fn=Tryz.f6:=(Option.some.inj (Tryz.func6.symm.trans hfn)).symm
    exact⟨by kernel_rfl,fun j t ht=>by
     rw[Tryz.params6] at ht
     have hh:t=48:=by
      rcases j with _|j
      ·simpa using ht.symm
      simp at ht
     subst hh
     exact(show Tryz.prog.wantsStandIn 48=false by kernel_rfl)⟩)
  (by kernel_rfl)
#print axioms logged_card
end Go.Proofs.YtclpnafiiobfhaaGreatDoor
