import Derived.Test.YtdhinkgjiapigaaGreatDoorReadB
import Derived.Test.YtdhinkgjiapigaaGreatDoorTopL
import Derived.OpenVars
import Derived.Lay
import Derived.LaidSub
namespace Go.Proofs.YtdhinkgjiapigaaGreatDoor
section
open Go
theorem gP {a b:Bool}(h:a=true) (k:b=true):(a&&b)=true:=by rw[h,k]; rfl
theorem Tryz.nI:laidOutB Tryz.prog=true:=by kernel_rfl
theorem Tryz.kW:mapsRowed Tryz.prog=true:=by kernel_rfl
theorem Tryz.qE:(Tryz.prog.stops == [])=true:=by kernel_rfl
theorem Tryz.kX:(Tryz.prog.stopKnobs == [])=true:=by kernel_rfl
theorem Tryz.qD:Tryz.prog.stopsHeard=true:=by kernel_rfl
theorem Tryz.lV:Tryz.prog.mayEnter=true:=by kernel_rfl
theorem Tryz.uM:(Rows.fnTopRow.wf (OpenSpec.ofChange Rows.fnTopSpec))=true:=by kernel_rfl
theorem Tryz.uN:(Tryz.f3.params.all (Tryz.prog.readableRec ·))=true:=by kernel_rfl
theorem Tryz.uO:(namedTie Tryz.prog Rows.fnTopRow.named Rows.fnTopSpec.vars)=true:=by kernel_rfl
theorem Tryz.uP:((Rows.fnTopRow.stops == []))=true:=by kernel_rfl
theorem Tryz.uQ:((Rows.fnTopRow.knobs == []))=true:=by kernel_rfl
theorem Tryz.uR:((Rows.fnTopRow.inPlace == Tryz.prog.inPlace 3))=true:=by kernel_rfl
theorem Tryz.rZ:((Rows.fnTopRow.unfollowed == Tryz.prog.unfollowed 3))=true:=by kernel_rfl
theorem Tryz.sD:((Rows.fnTopRow.recurses == Tryz.prog.recurses 3))=true:=by kernel_rfl
theorem Tryz.sE:((Rows.fnTopRow.named == Tryz.prog.varsNamed 3))=true:=by kernel_rfl
theorem Tryz.sF:((Rows.fnTopRow.maps == (Tryz.f3.params.toList++Rows.fnTopSpec.plain.varTypes Tryz.prog).any (Tryz.prog.mapsRec ·)))=true:=by kernel_rfl
theorem Tryz.sG:((Rows.fnTopRow.ifaces == (Tryz.f3.params.toList++Rows.fnTopSpec.plain.varTypes Tryz.prog).any (Tryz.prog.ifacesRec ·)))=true:=by kernel_rfl
theorem Tryz.sH:((Rows.fnTopRow.mapsOut == Tryz.prog.mapsAmong Tryz.f3.resultTypes.toList))=true:=by kernel_rfl
theorem Tryz.sI:((Rows.fnTopRow.loops == (Tryz.f3.params.toList++Rows.fnTopSpec.plain.varTypes Tryz.prog).any (Tryz.prog.loopsFrom ·)))=true:=by kernel_rfl
theorem Tryz.sJ:((Rows.fnTopRow.wideKeys == (Tryz.f3.params.toList++Rows.fnTopSpec.plain.varTypes Tryz.prog++Tryz.f3.resultTypes.toList).any (Tryz.prog.wideKeysFrom ·)))=true:=by kernel_rfl
theorem Tryz.sK:(Rows.fnTopSpec.vars.all (Tryz.prog.varReadable ·))=true:=by kernel_rfl
theorem Tryz.sL:(Tryz.f3.resultTypes.all (fun t=>Tryz.prog.readableRec t&&decide (t<Tryz.prog.types.size)))=true:=by kernel_rfl
theorem Tryz.sM:((Rows.fnTopRow.ifacesOut == Tryz.f3.resultTypes.toList.any (Tryz.prog.ifacesRec ·)))=true:=by kernel_rfl
theorem Tryz.sN:((Rows.fnTopRow.loopsOut == Tryz.f3.resultTypes.toList.any (Tryz.prog.loopsFrom ·)))=true:=by kernel_rfl
theorem Tryz.sO:((Rows.fnTopRow.plainKeys == Tryz.prog.plainKeys))=true:=by kernel_rfl
theorem Tryz.sP:(Rows.fnTopRow.shortTexts.isNone)=true:=by kernel_rfl
theorem Tryz.sQ:((Rows.fnTopRow.lifted == Tryz.prog.liftsFinal))=true:=by kernel_rfl
theorem Tryz.sR:((Tryz.prog.make == some Rows.fnTopRow.make))=true:=by kernel_rfl
theorem Tryz.sS:((Rows.fnTopRow.kinds == (if Rows.fnTopRow.domain.isEmpty then [] else Tryz.f3.params.toList.map fun t=>match Tryz.prog.underlying t with | some (.int k)=>some k | _=>none)))=true:=by kernel_rfl
theorem Tryz.sT:((Rows.fnTopRow.pinned == Rows.fnTopRow.pinnedBy))=true:=by kernel_rfl
theorem Tryz.sU:((Rows.fnTopRow.veiled == (Tryz.f3.params.toList++Rows.fnTopSpec.plain.varTypes Tryz.prog++Tryz.f3.resultTypes.toList).any (Tryz.prog.veiledRec ·)))=true:=by kernel_rfl
theorem Tryz.sV:(Rows.fnTopRow.veiledFits Tryz.prog Tryz.f3.params.toList (Tryz.f3.params.toList++Rows.fnTopSpec.plain.varTypes Tryz.prog++Tryz.f3.resultTypes.toList))=true:=by kernel_rfl
end
section
open Go.ChangeShapes Go.Joins Go.RowKit Go.WideShapes
abbrev iK:List (String×DataW Unit):=Rows.fnTopRow.laid
abbrev oA:List (String×DataW Unit):=iK.filter fun x=>x.2.handleName?.isNone
theorem iT {W:World}(h:laidMetH Tryz.prog iK W):W.cell? ⟨1,0,none⟩=some rF:=by
 have k:=h.filter (fun x=>x.2.handleName?.isSome);rw[show (iK.filter fun x=>x.2.handleName?.isSome)=zY by kernel_rfl] at k;exact J4 k
theorem qF {P:Program}{w0:World}{l:List (String×DataW Unit)}(d:w0.layFits P l []=true) (hi:w0.layIfaces P l (w0.layVars P l)=true):laidMet P l (w0.layVars P l):=by
 have a:(l.filter fun x=>(l.map Prod.fst).contains x.1)=l:=List.filter_eq_self.2 fun x b=>List.contains_iff_mem.2 (List.mem_map.2 ⟨x,b,rfl⟩)
 have c:(l.filter fun x=>!(l.map Prod.fst).contains x.1)=[]:=List.filter_eq_nil_iff.2 fun x b=>by rw[List.contains_iff_mem.2 (List.mem_map.2 ⟨x,b,rfl⟩)]; simp
 refine laidMet_layVars (w0:=w0) (l.map Prod.fst) [] ?_ ?_ ?_ ?_
 ·rw[a]
 ·rw[a]; exact d
 ·rw[a]; exact hi
 ·rw[c]; exact LaidIn.none
theorem laidWorldS (os:Os) (args:Array Value):laidMetH Tryz.prog iK ((({ World.holding Tryz.prog os ⟨#[],#[],[]⟩ with heap:=(World.holding Tryz.prog os ⟨#[],#[],[]⟩).heap.modify 1 Bn }:World).layVars Tryz.prog oA).forCall (fun _ _=>0) ⟨#[],args,[]⟩).memory:=
 laidMetH_of_parts ((qF (w0:=({ World.holding Tryz.prog os ⟨#[],#[],[]⟩ with heap:=(World.holding Tryz.prog os ⟨#[],#[],[]⟩).heap.modify 1 Bn }:World)) (by kernel_rfl) (by kernel_rfl)).of_heap (by simp[World.memory,World.forCall,Input.heap])) (by kernel_rfl)
theorem jJ {W:World}(h:laidMetH Tryz.prog iK W):cF W∧0<W.heap.size:=by
 have a:laidMet Tryz.prog oA W∧handlesMet Tryz.prog zY W:=h;refine KD a.1 ?_
 have e : oA[3]?=some ("loop.example/tappet/impl.signs", Ew) := by kernel_rfl
 exact List.mem_of_getElem? e
set_option maxRecDepth 100000 in
theorem kY (os:Os) (d:os.Started) (H:Type) (enc:TypeId×Value->H) :
  ReturnsInHanded {} Tryz.checked os 3 .any (fun w args=>(Rows.fnTopSpec.pre enc Tryz.prog Tryz.f3 [] false w args∧laidMetH Tryz.prog iK w)∧sizedMet enc Tryz.prog Tryz.f3 (OpenSpec.ofChange Rows.fnTopSpec) false w args)
   (Rows.fnTopSpec.post enc Tryz.prog Tryz.f3 false true false false):=by
 refine returnsInHanded_of_change_and (C:=Tryz.checked) (X:=fun w _=>laidMetH Tryz.prog iK w) (fun _ _ _ P h=>h.of_heap P) Tryz.own d (by kernel_rfl) Tryz.func3
  (ChangeSpec.witness_at (enc:=enc) (C:=Tryz.checked) (os:=os) (X:=fun w _=>laidMetH Tryz.prog iK w) false (({ World.holding Tryz.prog os ⟨#[],#[],[]⟩ with heap:=(World.holding Tryz.prog os ⟨#[],#[],[]⟩).heap.modify 1 Bn }:World).layVars Tryz.prog oA) #[.slice none 0 0] 8 ((World.layVars_os _ _ _).trans rfl) (by kernel_rfl) (by kernel_rfl) (by kernel_rfl) (by kernel_rfl) (by kernel_rfl) (laidWorldS os _)) ?_
 intro W base args ds E o b K _ _ I _;have g:∀(j:Nat) t v,Tryz.f3.params[j]?=some t->args[j]?=some v->Value.okWide Tryz.prog W .any base t v:=b;have m:=K;obtain⟨p,q,k,y,rfl,N,R⟩:=K;have G:DataW.TrodAll enc Tryz.prog W 0 (fun _=>true) true Tryz.f3.params.toList args.toList ds p:=k;have J:DataW.TrodVars enc Tryz.prog W (fun _=>true) Rows.fnTopSpec.vars E q:=y;rw[Tryz.params3] at G g;obtain⟨v0,r,rfl,rfl,F⟩:=trodAll_one G;obtain⟨Z,tt,V,Y,D,pg,rfl,-⟩:=trodVars_one (show DataW.TrodVars enc Tryz.prog W (fun _=>true) [_] E q from J);obtain⟨a,l,c,rfl⟩:=okWide_slice Tryz.underlying22 (g 0 22 v0 rfl rfl);have u:=F;obtain⟨i,M⟩:=F;obtain⟨n,Q,L⟩:=Jj (show DataW.trod enc Tryz.prog W 0 (fun _=>true) true i 22 [.slice a l c]=some (r,p) from M)
 obtain rfl:l=n:=by
  obtain⟨T,U,e,-⟩:=L
  cases e
  rfl
 have O:=iT I;obtain⟨B,A⟩:=jJ I;clear k b;have z:∀x∈p,x.block<W.heap.size:=fun x S=>m.lt x (List.mem_append_left _ S)
 have s:Rows.fnTopSpec.fn H ([r]++[D])={ results:=[.lit (.bool true)],args:=[r],vars:=[D] }:=by simp[Rows.fnTopSpec]
 refine (oX a l c W L Q O B A).mono fun e W' ⟨he,hb⟩=>?_;subst he;refine⟨_,rfl,_,_,_,[],p,q,m,?_,?_,?_,hb.frame _,fun h=>by cases h⟩
 ·rw[s]; exact trodAll_mk1 (shut_bool Tryz.underlying4 true)
 ·rw[s]; exact trodAll_mk1 (Below.trod Tryz.laidOut (by kernel_rfl) (of_decide_eq_true (by kernel_rfl)) u hb z)
 ·rw[s]; exact Below.trodVars Tryz.laidOut hb (by kernel_rfl) J
set_option maxRecDepth 100000 in
theorem Tryz.AN:joinedFacts Tryz.prog 3 Tryz.f3 Rows.fnTopSpec Rows.fnTopRow=true:=by
 unfold joinedFacts;exact (gP (gP (gP (gP (gP (gP (gP (gP (gP (gP (gP (gP (gP (gP (gP (gP (gP (gP (gP (gP (gP (gP (gP (gP (gP (gP (gP (gP (gP (gP (gP Tryz.uM Tryz.nI) Tryz.kW) Tryz.uN) Tryz.uO) Tryz.uP) Tryz.qE) Tryz.uQ) Tryz.kX) Tryz.uR) Tryz.rZ) Tryz.sD) Tryz.sE) Tryz.sF) Tryz.sG) Tryz.sH) Tryz.sI) Tryz.sJ) Tryz.sK) Tryz.sL) Tryz.sM) Tryz.sN) Tryz.sO) Tryz.sP) Tryz.qD) Tryz.lV) Tryz.sQ) Tryz.sR) Tryz.sS) Tryz.sT) Tryz.sU) Tryz.sV)
theorem lW:Rows.FnTopSaid:=
 OpenClaim.holds_of_wide 3 Tryz.f3 rfl rfl rfl rfl rfl rfl rfl ⟨rfl,rfl,rfl,rfl,rfl⟩ rfl rfl rfl rfl rfl (by kernel_rfl) Tryz.func3 Tryz.AN
  (of_decide_eq_true (by kernel_rfl)) (by unfold Func.isWrapper; rw[if_neg (of_decide_eq_false (by kernel_rfl))]; exact⟨rfl,rfl⟩)
  (fun os a H enc _=>kY os a H enc)
end
end Go.Proofs.YtdhinkgjiapigaaGreatDoor
