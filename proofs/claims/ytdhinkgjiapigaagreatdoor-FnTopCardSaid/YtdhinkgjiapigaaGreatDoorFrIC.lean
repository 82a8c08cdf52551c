import Derived.Test.YtdhinkgjiapigaaGreatDoorFrG
import Derived.Test.YtdhinkgjiapigaaGreatDoorSpec7
import Derived.Deep.DeepCutAuto
import Derived.Test.YtdhinkgjiapigaaGreatDoorEvA
namespace Go.Proofs.YtdhinkgjiapigaaGreatDoor
open Classical Go.Deep Go.RowKit
theorem Tryz.qB (a:Addr) (n c:Nat) (w:World):(binOp .eql 36 (.slice (some a) n c) (.slice none 0 0)).run Tryz.prog w=.ok (.bool false) w:=by kernel_rfl
set_option maxRecDepth 100000 in
set_option maxHeartbeats 2000000 in
theorem yQ (a:Option Addr) (c:Nat) (l:List Bool) (w:World) (E:Bools (In w) w (.slice a l.length c) l) (O:l.length<=1048576) (r:0<l.length) :
  Calls Tryz.prog 136 #[.slice a l.length c] w fun e w'=>∃v b,e=.returned v∧aV w' v l b∧w.heap.size<=b∧Below w.heap.size w w':=by
 have d:=bC w (.cells #[] 4);have C:=aD (Ao (E.keep (In.keep d).1 (In.keep d).2))
 have m:Hid ((l.map Value.bool).length=l.length*1):=by rw[List.length_map,Nat.mul_one]; rfl
 have o:=aD (BB l)
 have u:Hid (0+l.length<=maxLen):=by show 0+l.length<=maxLen; unfold maxLen; omega
 have x:Hid ((0+l.length)*1<=140737488355328):=by show (0+l.length)*1<=140737488355328; omega
 have G:=aD (Dc w w.heap.size rfl);have k:Hid (w.heap.size<=(w.alloc (.cells #[] 4)).heap.size):=d.size;obtain⟨B,f⟩:∃nw,nw=l.map Value.bool:=⟨_,rfl⟩;have y:=aD f;rw[← f] at C m o;obtain⟨L,M,A,N | ⟨b,off,rfl,I,-⟩⟩:=E
 ·omega
 cases A
 have s:=aD d;have D:=Tryz.qB;clear f d;go_enter Tryz.func136,Tryz.ntmps136
 go_wp2_with (at_builtin; refine iN rfl _ _ 36 rfl w.heap.size 4 (.bool false) 1 1 Tryz.underlying36 Tryz.bZ rfl (by decide) (.slice (some ⟨w.heap.size,0,none⟩) 0 0) 0 [] rfl G.out _ l.length c B rfl m.out C.out o.out u.out x.out k.out ?_)
 intro K F g j;obtain⟨H,p,q⟩:=BD (l:=l) (n:=0+l.length) (by rw[← y.out]; simpa using g) (by omega) r
 have h:Below w.heap.size (w.alloc (.cells #[] 4)) F:=(Below.refl _ _).grown j k.out fun z J=>by cases J; exact Nat.le_refl _
 have i:Below w.heap.size w F:=s.out.trans h;have t:=aD (And.intro p (And.intro q i));clear p q h i g j;go_wp2;go_ret;exact⟨K,H,rfl,t.out.1,t.out.2.1,t.out.2.2⟩
def xZ (n:Nat) (s:bL) (w:World) (e:Ending) (w':World):Prop:=
 ∃v b,e=.returned (.agg #[.int .i64 (bO n s).state,.int .i64 (bO n s).gone,v,.bool (bO n s).aR,.int .i64 (bO n s).aN])∧aV w' v (bO n s).aL b∧w.heap.size<=b∧Below w.heap.size w w'
theorem yS {W:World}{n:Nat}(_hn:0<n):aV (W.alloc (.cells (madeCells #[.bool false] n) 4)) (.slice (some ⟨W.heap.size,0,none⟩) n n) (List.replicate n false) W.heap.size:=by
 refine⟨_,n,n,by rw[List.length_replicate],World.rowIs_made W _ n _,by rw[List.length_replicate]; exact Nat.le_refl _,fun i x a=>?_⟩;have:=(List.mem_replicate.1 (List.mem_of_getElem? a)).2;rw[this]
theorem yB (w:World) (a b o3:Obj) {n:Nat}(c:0<n):aV ((((w.alloc a).alloc b).alloc o3).alloc (.cells (madeCells #[.bool false] n) 4)) (.slice (some ⟨w.heap.size+1+1+1,0,none⟩) n n) (List.replicate n false) (w.heap.size+1+1+1)∧Below w.heap.size w ((((w.alloc a).alloc b).alloc o3).alloc (.cells (madeCells #[.bool false] n) 4)):=by
 have d:(((w.alloc a).alloc b).alloc o3).heap.size=w.heap.size+1+1+1:=by simp
 have:=yS (W:=((w.alloc a).alloc b).alloc o3) c;rw[d] at this;exact⟨this,(((((Below.refl _ _).alloc (Nat.le_refl _) _).alloc (by simp) _).alloc (by simp; omega) _).alloc (by simp; omega) _)⟩
theorem zS (w:World) (a b o3:Obj) {n:Nat}(e:0<n):aV ((((w.alloc a).alloc b).alloc o3).alloc (.cells (madeCells #[.bool false] n) 4)).drew (.slice (some ⟨w.heap.size+1+1+1,0,none⟩) n n) (List.replicate n false) (w.heap.size+1+1+1)∧Below w.heap.size w ((((w.alloc a).alloc b).alloc o3).alloc (.cells (madeCells #[.bool false] n) 4)).drew:=by
 obtain⟨d,c⟩:=yB w a b o3 e;exact⟨d.but (K:=fun _=>True) (But.aG (cT _)) trivial,c.trans ((cT _).mono c.size)⟩
set_option maxRecDepth 100000 in
set_option maxHeartbeats 2000000 in
theorem uW (b f g h i:Value) (secs:List Int) (w:World) (d:Ints (In w) w b secs) (a:1<=secs.length) (l:secs.length<=30) :
  Calls Tryz.prog 58 #[.agg #[],.agg #[b,f,g,h,i]] w fun e w'=>xZ secs.length .idle w e w':=by
 obtain⟨j,k,rfl,-⟩:=d;have c:=run_make_row' (P:=Tryz.prog) 36 4 (.bool false) 1 Tryz.underlying36 Tryz.bZ rfl .i64 .i64 secs.length (by omega) (by omega);go_enter Tryz.func58,Tryz.ntmps58;go_wp2;exact bodyPost_ret (v:=.agg #[.int .i64 0,.int .i64 0,.slice (some ⟨w.heap.size+1+1+1,0,none⟩) secs.length secs.length,.bool false,.int .i64 0]) (by simp[results,Tryz.results58,go_sem]) rfl ⟨_,_,rfl,(yB w _ _ _ a).1,by omega,(yB w _ _ _ a).2⟩
set_option maxRecDepth 100000 in
set_option maxHeartbeats 2000000 in
theorem Ci (b f g h i:Value) (secs:List Int) (w:World) (d:Ints (In w) w b secs) (a:1<=secs.length) (l:secs.length<=30) :
  Calls Tryz.prog 242 #[.agg #[],.agg #[b,f,g,h,i]] w fun e w'=>xZ secs.length .clear w e w':=by
 obtain⟨j,k,rfl,-⟩:=d;have c:=run_make_row' (P:=Tryz.prog) 36 4 (.bool false) 1 Tryz.underlying36 Tryz.bZ rfl .i64 .i64 secs.length (by omega) (by omega);go_enter Tryz.func242,Tryz.ntmps242;go_wp2;exact bodyPost_ret (v:=.agg #[.int .i64 2,.int .i64 0,.slice (some ⟨w.heap.size+1+1+1,0,none⟩) secs.length secs.length,.bool true,.int .i64 0]) (by simp[results,Tryz.results242,go_sem]) rfl ⟨_,_,rfl,(yB w _ _ _ a).1,by omega,(yB w _ _ _ a).2⟩
set_option maxRecDepth 100000 in
set_option maxHeartbeats 2000000 in
theorem BH (b:Bool) (c g h i j:Value) (secs:List Int) (w:World) (f:Ints (In w) w c secs) (a:1<=secs.length) (m:secs.length<=30) :
  Calls Tryz.prog 198 #[.agg #[.bool b],.agg #[c,g,h,i,j]] w fun e w'=>xZ secs.length (.set b) w e w':=by
 obtain⟨k,l,rfl,-⟩:=f;have d:=run_make_row' (P:=Tryz.prog) 36 4 (.bool false) 1 Tryz.underlying36 Tryz.bZ rfl .i64 .i64 secs.length (by omega) (by omega);go_enter Tryz.func198,Tryz.ntmps198;go_wp2
 go_region
 all_goals
  go_wp2;exact bodyPost_ret (v:=.agg #[.int .i64 1,.int .i64 0,.slice (some ⟨w.heap.size+1+1+1,0,none⟩) secs.length secs.length,.bool b,.int .i64 0]) (by simp[results,Tryz.results198,go_sem]) rfl ⟨_,_,rfl,(zS w _ _ _ a).1,by omega,(zS w _ _ _ a).2⟩
set_option maxRecDepth 100000 in
set_option maxHeartbeats 2000000 in
theorem xG (t:Int) (b f g h i:Value) (secs:List Int) (w:World) (d:Ints (In w) w b secs) (a:1<=secs.length) (l:secs.length<=30) :
  Calls Tryz.prog 259 #[.agg #[.int .i64 t],.agg #[b,f,g,h,i]] w fun e w'=>xZ secs.length (.taking t) w e w':=by
 obtain⟨j,k,rfl,-⟩:=d;have c:=run_make_row' (P:=Tryz.prog) 36 4 (.bool false) 1 Tryz.underlying36 Tryz.bZ rfl .i64 .i64 secs.length (by omega) (by omega);go_enter Tryz.func259,Tryz.ntmps259;go_wp2
 go_region
 all_goals
  go_wp2;exact bodyPost_ret (v:=.agg #[.int .i64 3,.int .i64 0,.slice (some ⟨w.heap.size+1+1+1,0,none⟩) secs.length secs.length,.bool true,.int .i64 (t)]) (by simp[results,Tryz.results259,go_sem]) rfl ⟨_,_,rfl,(zS w _ _ _ a).1,by omega,(zS w _ _ _ a).2⟩
theorem Dv {P:Nat->Prop}{W:World}{u t:Nat}{f:Nat->Value}{l:List Bool}{n c:Nat}(g:W.rowIs u t 32 f) (e:P u) (h:l.length=30) (d:∀(j:Nat) x,l[j]?=some x->f (1+j)=.bool x) (k:n<=30):Bools P W (.slice (some ⟨u,1,none⟩) (l.take n).length c) (l.take n):=by
 refine⟨_,_,rfl,.inr ⟨u,1,rfl,e,fun i hi x b=>?_⟩⟩
 have a:i<n:=by rw[List.length_take] at hi; omega
 rw[List.getElem?_take,if_pos a] at b;rw[g.cell (by omega),d i x b]
theorem Ia {w a:World}{f h:Array Value}{j k:TypeId}{m n o p q:Value}{v:Value}{l:List Bool}{b:Nat}(e:aV a v l b) (T:bD w [(j,f),(k,h),(44,#[m,n,o,p,q])] a) (v0 v1 v2 v3 v4:Value) :
  aV (((((a.setCell ⟨w.heap.size+1+1,0,none⟩ v0).setCell ⟨w.heap.size+1+1,1,none⟩ v1).setCell ⟨w.heap.size+1+1,2,none⟩ v2).setCell ⟨w.heap.size+1+1,3,none⟩ v3).setCell ⟨w.heap.size+1+1,4,none⟩ v4) v l b∧Below w.heap.size w (((((a.setCell ⟨w.heap.size+1+1,0,none⟩ v0).setCell ⟨w.heap.size+1+1,1,none⟩ v1).setCell ⟨w.heap.size+1+1,2,none⟩ v2).setCell ⟨w.heap.size+1+1,3,none⟩ v3).setCell ⟨w.heap.size+1+1,4,none⟩ v4):=by
 have d:b≠w.heap.size+1+1:=by
  obtain⟨g,M,c,-,i,-⟩:=e;exact iU i (T.row 2 _ _ rfl) (by decide)
 have B:But (fun c=>c≠w.heap.size+1+1) a (((((a.setCell ⟨w.heap.size+1+1,0,none⟩ v0).setCell ⟨w.heap.size+1+1,1,none⟩ v1).setCell ⟨w.heap.size+1+1,2,none⟩ v2).setCell ⟨w.heap.size+1+1,3,none⟩ v3).setCell ⟨w.heap.size+1+1,4,none⟩ v4):=(((((But.refl _ _).setCell (fun z=>z rfl) _).setCell (fun z=>z rfl) _).setCell (fun z=>z rfl) _).setCell (fun z=>z rfl) _).setCell (fun z=>z rfl) _;exact⟨e.but B d,T.below.trans (B.below T.below.size fun x r=>by show x≠w.heap.size+1+1; omega)⟩
set_option maxRecDepth 100000 in
set_option maxHeartbeats 4000000 in
theorem DT (g:Int) (l:List Bool) (b:Bool) (O G H I J:Value) (secs:List Int) (w:World) (W:Ints (In w) w O secs) (U:1<=secs.length) (T:secs.length<=30) (N:l.length=30) :
  Calls Tryz.prog 244 #[.agg (dI g l b),.agg #[O,G,H,I,J]] w fun e w'=>xZ secs.length (.used g l b) w e w':=by
 obtain⟨z,A,rfl,-⟩:=W;have p:=iE w 190 51 44 (dI g l b) #[.slice z secs.length A,G,H,I,J] #[.int .i64 0,.int .i64 0,.slice none 0 0,.bool false,.int .i64 0];go_enter Tryz.func244,Tryz.ntmps244;go_wp2;generalize R:World.alloc (World.alloc (World.alloc w _) _) _=W0 at p ⊢;clear R;obtain⟨f,n,D,m,M⟩:=B8 (p.row 0 _ _ rfl) N;rw[Nat.add_zero] at n
 have t:(l.take secs.length).length=secs.length:=by rw[List.length_take]; omega
 have s:Calls Tryz.prog 136 #[.slice (some ⟨w.heap.size,1,none⟩) secs.length 30] W0.drew fun e w'=>∃v h,e=.returned v∧aV w' v (l.take secs.length) h∧w.heap.size<=h∧bD w [(190,dI g l b),(51,#[.slice z secs.length A,G,H,I,J]),(44,#[.int .i64 0,.int .i64 0,.slice none 0 0,.bool false,.int .i64 0])] w'∧∃f,w'.rowIs w.heap.size 190 32 f∧f 0=.int .i64 g∧f 31=.bool b:=by
  have S:=Dv (P:=In W0.drew) (c:=30) (eV n (cT _)) (eV n (cT _)).lt N M T;have L:=yQ (some ⟨w.heap.size,1,none⟩) 30 (l.take secs.length) W0.drew S (by omega) (by omega);rw[t] at L;refine L.mono ?_;rintro e w' ⟨v,h,rfl,u,E,r⟩;have a:=(p.call (cT _)).call r;exact⟨v,h,rfl,u,Nat.le_trans (p.call (cT _)).below.size E,a,f,eV (eV n (cT _)) r,D,m⟩
 have x:=aD s;have B:=n.cell (i:=0) (by omega);have C:=n.cell (i:=31) (by omega);rw[D] at B;rw[m] at C;have k0:W0.cell? ⟨w.heap.size+1,0,none⟩=some (.slice z secs.length A):=p.c 1 0 rfl rfl;clear s n D m M t p
 have V:(secs.length:Int)<=30:=by omega
 go_region_with (go_at_call 136; refine x.out.mono ?_; rintro e w2 ⟨v,h,rfl,u,E,a,f2,o,K,q⟩; have Q:=aD u; obtain⟨gq,Mq,k,rfl,-,-,-⟩:=u; have y:=aD a; have r0:=o.cell (i:=0) (by omega); have F:=o.cell (i:=31) (by omega); rw[K] at r0; rw[q] at F; have X:=a.c 2 0 rfl rfl; have Y:=a.c 2 1 rfl rfl; have Z:=a.c 2 2 rfl rfl; have q3:=a.c 2 3 rfl rfl; have q4:=a.c 2 4 rfl rfl; have y0:=a.frozen (j:=2) 0 rfl; have y1:=a.frozen (j:=2) 1 rfl; have y2:=a.frozen (j:=2) 2 rfl; have y3:=a.frozen (j:=2) 3 rfl; have y4:=a.frozen (j:=2) 4 rfl; clear a o K q)
 all_goals
  go_wp2;have d:=Ia Q.out y.out (.int .i64 4) (.int .i64 g) (.slice (some ⟨h,0,none⟩) (l.take secs.length).length k) (.bool b) (.int .i64 0);rw[show (l.take secs.length).length=secs.length by rw[List.length_take]; omega] at d;exact bodyPost_ret (v:=.agg #[.int .i64 4,.int .i64 g,.slice (some ⟨h,0,none⟩) secs.length k,.bool b,.int .i64 0]) (by simp[results,Tryz.results244,go_sem,X,Y,Z,q3,q4]) rfl ⟨_,h,rfl,d.1,E,d.2⟩
set_option maxHeartbeats 1000000 in
theorem Jh (a b c d f g h i j k:Value) (w:World):Calls Tryz.prog 236 #[.agg #[],.agg #[a,b,c,d,f],.agg #[g,h,i,j,k]] w fun e w'=>e=.returned (.bool true)∧Below w.heap.size w w':=by
 go_enter Tryz.func236,Tryz.ntmps236;go_wp2;go_ret;exact⟨rfl,((((Below.refl _ _).alloc (Nat.le_refl _) _).alloc (by simp) _).alloc (by simp; omega) _)⟩
set_option maxHeartbeats 1000000 in
theorem Jo (b:Bool) (a c d f g h i j k l:Value) (w:World):Calls Tryz.prog 241 #[.agg #[.bool b],.agg #[a,c,d,f,g],.agg #[h,i,j,k,l]] w fun e w'=>e=.returned (.bool true)∧Below w.heap.size w w':=by
 go_enter Tryz.func241,Tryz.ntmps241;go_wp2;go_ret;exact⟨rfl,((((Below.refl _ _).alloc (Nat.le_refl _) _).alloc (by simp) _).alloc (by simp; omega) _)⟩
set_option maxHeartbeats 1000000 in
theorem JV (a b c d f g h i j k:Value) (w:World):Calls Tryz.prog 243 #[.agg #[],.agg #[a,b,c,d,f],.agg #[g,h,i,j,k]] w fun e w'=>e=.returned (.bool true)∧Below w.heap.size w w':=by
 go_enter Tryz.func243,Tryz.ntmps243;go_wp2;go_ret;exact⟨rfl,((((Below.refl _ _).alloc (Nat.le_refl _) _).alloc (by simp) _).alloc (by simp; omega) _)⟩
set_option maxHeartbeats 1000000 in
theorem zs1 (t aI:Int) (d f g i j k l m n:Value) (w:World):Calls Tryz.prog 260 #[.agg #[.int .i64 t],.agg #[d,f,g,i,.int .i64 aI],.agg #[j,k,l,m,n]] w fun e w'=>e=.returned (.bool (B (bN t 1 aI)))∧Below w.heap.size w w':=by
 have a:=iE w 235 27 51 #[.int .i64 t] #[d,f,g,i,.int .i64 aI] #[j,k,l,m,n];by_cases b:1<=t
 ·by_cases c:t<=aI
  ·rw[bQ (show bN t 1 aI from ⟨b,c⟩)];go_enter Tryz.func260,Tryz.ntmps260;go_wp2;go_ret;exact⟨bI (by simp; try omega),a.below⟩
  ·rw[bE (show ¬bN t 1 aI from fun h=>c h.2)];go_enter Tryz.func260,Tryz.ntmps260;go_wp2;go_ret;exact⟨bI (by simp; try omega),a.below⟩
 ·rw[bE (show ¬bN t 1 aI from fun h=>b h.1)];go_enter Tryz.func260,Tryz.ntmps260;go_wp2;go_ret;exact⟨bI (by simp; try omega),a.below⟩
theorem Ej {l:List Bool}{g:Int}(c:0<=g) (f:g<=l.length):(l.take g.toNat).all id=true↔∀k:Nat,(k:Int)<g->l[k]?=some true:=by
 constructor
 ·intro h k d;obtain⟨x,a⟩:=eU l (i:=k) (by omega);have b:x∈l.take g.toNat:=List.mem_of_getElem? (i:=k) (by rw[List.getElem?_take,if_pos (by omega)]; exact a);have:=List.all_eq_true.1 h x b;rw[a];exact congrArg some this
 ·intro h;rw[List.all_eq_true];intro x a;obtain⟨i,hi⟩:=List.getElem?_of_mem a;rw[List.getElem?_take] at hi;by_cases e:i<g.toNat
  ·rw[if_pos e,h i (by omega)] at hi
   cases hi
   rfl
  ·rw[if_neg e] at hi
   cases hi
set_option maxRecDepth 100000 in
set_option maxHeartbeats 2000000 in
theorem Jk (g:Int) (l:List Bool) (b:Bool) (aI:Int) (y z A C D E F G H I:Value) (secs:List Int) (w:World) (N:Ints (In w) w E secs) (Q:secs.length<=30) (x:l.length=30) :
  Calls Tryz.prog 245 #[.agg (dI g l b),.agg #[y,z,A,C,D],.agg #[E,F,G,H,I]] w fun e w'=>e=.returned (.bool (B (pU aI secs.length (.used g l b))))∧Below w.heap.size w w':=by
 obtain⟨K,L,rfl,-⟩:=N;have k:=iE w 190 27 51 (dI g l b) #[y,z,A,C,D] #[.slice K secs.length L,F,G,H,I];go_enter Tryz.func245,Tryz.ntmps245;obtain⟨f,m,t,r,v⟩:=B8 (k.row 0 _ _ rfl) x;rw[Nat.add_zero] at m;have p:=m.cell (i:=0) (by omega);rw[t] at p;have J:=aD v;have s:=aD m;clear t r v m;by_cases q:0<=g
 case neg=>
  go_wp2;go_ret;exact⟨bI (bE fun h=>by have:=h.1.1; omega).symm,k.below⟩
 by_cases O:g<(secs.length:Int)
 case neg=>
  go_wp2;go_ret;exact⟨bI (bE fun h=>by have:=h.1.2; omega).symm,k.below⟩
 have M:g<=30:=by omega
 have j:(l.take g.toNat).length=g.toNat:=by rw[List.length_take]; omega
 have u:=Dv (P:=In _) (c:=30) s.out s.out.lt x J.out (n:=g.toNat) (by omega);have a:=JZ _ (l.take g.toNat) _ u (by omega);rw[j] at a;have o:=aD a;clear a u j
 go_wp2_with fail
 refine o.out.mono ?_;rintro e w' ⟨rfl,rfl⟩;go_wp2;go_ret;refine⟨bI ?_,k.below⟩;by_cases d:(l.take g.toNat).all id=true
 ·rw[d];exact (bQ ⟨⟨q,by omega⟩,(Ej q (by omega)).1 d⟩).symm
 ·rw[Bool.not_eq_true] at d;rw[d];exact (bE fun h=>by have:=(Ej q (by omega)).2 h.2; rw[d] at this; cases this).symm
theorem Js {n:Nat}{h:aM}{s:bL}(a:iG h=some s):(bO n s).state=h.state:=by
 unfold iG at a;split at a
 ·cases a; rename_i e; rw[e]; rfl
 split at a
 ·cases a; rename_i e; rw[e]; rfl
 split at a
 ·cases a; rename_i e; rw[e]; rfl
 split at a
 ·cases a; rename_i e; rw[e]; rfl
 split at a
 ·cases a; rename_i e; rw[e]; rfl
 ·cases a
theorem Bj {aI:Int}{n:Nat}{h:aM}{s:bL}(j:iG h=some s) (p:h.aL.length=n) (o:1<=n) (m:n<=30):fD aI n h↔pU aI n s∧((bO n s).gone=h.gone∧(bO n s).aR=h.aR∧(bO n s).aN=h.aN∧(bO n s).aL=h.aL):=by
 constructor
 ·intro z;obtain⟨v,g,i,-,f⟩:=yC m z;rw[j] at g
  cases g
  exact⟨i,by rw[f],by rw[f],by rw[f],by rw[f]⟩
 ·rintro⟨z,g,i,l,f⟩;refine Jm p o m j z ?_;have k:=Js (n:=n) j;obtain⟨a,b,c,d,e⟩:=h;generalize bO n s=y at *;obtain⟨q,b',r,t,u⟩:=y;simp only at k g i l f;rw[k,g,i,l,f]
theorem JY {n:Nat}{h:aM}{s:bL}(a:iG h=some s) (b:h.aL.length=n):(bO n s).aL.length=n:=by
 subst b;unfold iG at a;split at a
 ·cases a; simp[bO]
 split at a
 ·cases a; simp[bO]
 split at a
 ·cases a; simp[bO]
 split at a
 ·cases a; simp[bO]
 split at a
 ·cases a; simp[bO,pad]
 ·cases a
theorem Jq {h:aM}{s:bL}(a:iG h=some s) (b:h.aL.length<=30):match s with | .inr (.inr (.inr (.inr (_,l,_))))=>l.length=30 | _=>True:=by
 unfold iG at a;split at a
 ·cases a; trivial
 split at a
 ·cases a; trivial
 split at a
 ·cases a; trivial
 split at a
 ·cases a; trivial
 split at a
 ·cases a; exact vA b
 ·cases a
theorem Tryz.lT (v : Value) (w : World) : (method 401 103 v "loop.example/tappet/impl.ok").run Tryz.prog w=.ok (236, v) w := by kernel_rfl
theorem Tryz.cH (v : Value) (w : World) : (method 401 103 v "loop.example/tappet/impl.held").run Tryz.prog w=.ok (58, v) w := by kernel_rfl
theorem Tryz.nH (v : Value) (w : World) : (method 401 185 v "loop.example/tappet/impl.ok").run Tryz.prog w=.ok (241, v) w := by kernel_rfl
theorem Tryz.gV (v : Value) (w : World) : (method 401 185 v "loop.example/tappet/impl.held").run Tryz.prog w=.ok (198, v) w := by kernel_rfl
theorem Tryz.kV (v : Value) (w : World) : (method 401 187 v "loop.example/tappet/impl.ok").run Tryz.prog w=.ok (243, v) w := by kernel_rfl
theorem Tryz.fQ (v : Value) (w : World) : (method 401 187 v "loop.example/tappet/impl.held").run Tryz.prog w=.ok (242, v) w := by kernel_rfl
theorem Tryz.jZ (v : Value) (w : World) : (method 401 235 v "loop.example/tappet/impl.ok").run Tryz.prog w=.ok (260, v) w := by kernel_rfl
theorem Tryz.cG (v : Value) (w : World) : (method 401 235 v "loop.example/tappet/impl.held").run Tryz.prog w=.ok (259, v) w := by kernel_rfl
theorem Tryz.lU (v : Value) (w : World) : (method 401 190 v "loop.example/tappet/impl.ok").run Tryz.prog w=.ok (245, v) w := by kernel_rfl
theorem Tryz.gF (v : Value) (w : World) : (method 401 190 v "loop.example/tappet/impl.held").run Tryz.prog w=.ok (244, v) w := by kernel_rfl
set_option maxRecDepth 100000 in
set_option maxHeartbeats 8000000 in
theorem zs0 (p0 p1 p2 p3 u0 R S T U v2:Value) (aI:Int) (h:aM) (x:aT) (w:World) (hx:cC (In w) w u0 R S T U x) (hb:Bools (In w) w v2 h.aL) (hs:x.Small 30) (J:1<=x.aA.length) (aH:h.aL.length<=1048576) :
  Calls Tryz.prog 95 #[.agg #[p0,p1,p2,p3,.int .i64 aI],.agg #[u0,R,S,T,U],.agg #[.int .i64 h.state,.int .i64 h.gone,v2,.bool h.aR,.int .i64 h.aN]] w fun e w'=>∃v,e=.returned (.tuple #[v,.bool (B (fD aI x.aA.length h))])∧(fD aI x.aA.length h->∃s,iG h=some s∧v=dO s)∧Below w.heap.size w w':=by
 have T0:=iE w 27 51 44 #[p0,p1,p2,p3,.int .i64 aI] #[u0,R,S,T,U] #[.int .i64 h.state,.int .i64 h.gone,v2,.bool h.aR,.int .i64 h.aN];have a8:∀W,Below w.heap.size w W->Bools (In W) W v2 h.aL:=fun W k=>hb.keep (In.keep k).1 (In.keep k).2;have a9:∀W,Below w.heap.size w W->cC (In W) W u0 R S T U x:=fun W k=>hx.keep (In.keep k).1 (In.keep k).2;have K1:=aD a8;have K3:=aD a9;have X:=aD hs;obtain⟨a0,c0,rfl⟩:=hx.1.size;obtain⟨a2,c2,rfl⟩:=hb.size;clear a8 a9 hx hb hs;go_enter Tryz.func95,Tryz.ntmps95;by_cases u:h.aL.length=x.aA.length
 case neg=>
  have k0:((h.aL.length:Int) != (x.aA.length:Int))=true:=by simp; omega
  have Z:=aD u;clear u;go_wp2;exact bodyPost_ret (v:=.tuple #[.nilIface,.bool false]) (by simp[results,Tryz.results95,go_sem]) rfl ⟨_,by rw[bE fun z=>Z.out z.2.1],fun z=>absurd z.2.1 Z.out,T0.below⟩
 have k0:((h.aL.length:Int) != (x.aA.length:Int))=false:=by simp; omega
 have Z:=aD u;clear u;have aC:=yO h (.slice a2 h.aL.length c2) _ (K1.out _ T0.below) (by have:=Z.out; have:=X.out.1; omega) (by have:=Z.out; omega)
 go_wp2_with fail
 refine aC.mono ?_;clear aC;rintro e w1 ⟨rfl,a6⟩;have f:=T0.call a6;clear T0 a6;have n:=f.c 0 0 rfl rfl;have o:=f.c 0 1 rfl rfl;have p:=f.c 0 2 rfl rfl;have q:=f.c 0 3 rfl rfl;have r:=f.c 0 4 rfl rfl;have E:=f.c 1 0 rfl rfl;have F:=f.c 1 1 rfl rfl;have G:=f.c 1 2 rfl rfl;have H:=f.c 1 3 rfl rfl;have I:=f.c 1 4 rfl rfl;have u:=f.c 2 0 rfl rfl;have L:=f.c 2 1 rfl rfl;have M:=f.c 2 2 rfl rfl;have N:=f.c 2 3 rfl rfl;have O:=f.c 2 4 rfl rfl;rw[Nat.add_zero] at n o p q r
 cases hst:iG h with
 | none=>
  have m:=aD hst;clear hst;simp only[vG];go_wp2
  have K:¬fD aI x.aA.length h:=fun z=>by
   obtain⟨s,hs,-⟩:=yC X.out.1 z;rw[m.out] at hs
   cases hs
  exact bodyPost_ret (v:=.tuple #[.nilIface,.bool false]) (by simp[results,Tryz.results95,go_sem]) rfl ⟨_,by rw[bE K],fun z=>absurd z K,f.below⟩
 | some s=>
  have m:=aD hst;clear hst;simp only[vG]
  cases s using bL.by
  case' idle=>
   simp only[dO];have m1:=Tryz.lT (.agg #[]);have m2:=Tryz.cH (.agg #[])
   go_wp2_with fail
   refine (Jh p0 p1 p2 p3 _ _ R S T U _).mono ?_;clear n o p q r E F G H I u L M N O;rintro e w2 ⟨rfl,c⟩;have a:=f.call c;clear f c;have n:=a.c 0 0 rfl rfl;have o:=a.c 0 1 rfl rfl;have p:=a.c 0 2 rfl rfl;have q:=a.c 0 3 rfl rfl;have r:=a.c 0 4 rfl rfl;have E:=a.c 1 0 rfl rfl;have F:=a.c 1 1 rfl rfl;have G:=a.c 1 2 rfl rfl;have H:=a.c 1 3 rfl rfl;have I:=a.c 1 4 rfl rfl;have u:=a.c 2 0 rfl rfl;have L:=a.c 2 1 rfl rfl;have M:=a.c 2 2 rfl rfl;have N:=a.c 2 3 rfl rfl;have O:=a.c 2 4 rfl rfl;rw[Nat.add_zero] at n o p q r;have HO:Hid (pU aI x.aA.length .idle):=trivial
   go_wp2_with fail
   refine (uW _ R S T U x.aA _ (K3.out _ a.below).1 J X.out.1).mono ?_;clear n o p q r E F G H I u L M N O;rintro e w3 ⟨v',bq,rfl,hO,hq,d⟩;have T3:=a.call d;clear a d;obtain⟨y,hy⟩:∃y,y=bO x.aA.length .idle:=⟨_,rfl⟩;obtain⟨V,D⟩:∃V:Value,V=(.iface 103 (.agg #[])):=⟨_,rfl⟩;have HV:Hid (∀v,fD aI x.aA.length h->v=V->∃s,iG h=some s∧v=dO s):=fun v _ hv=>⟨_,m.out,hv.trans D⟩;rw[← D];clear D
  case' set sb=>
   simp only[dO];have m1:=Tryz.nH (.agg #[.bool sb]);have m2:=Tryz.gV (.agg #[.bool sb])
   go_wp2_with fail
   refine (Jo sb p0 p1 p2 p3 _ _ R S T U _).mono ?_;clear n o p q r E F G H I u L M N O;rintro e w2 ⟨rfl,c⟩;have a:=f.call c;clear f c;have n:=a.c 0 0 rfl rfl;have o:=a.c 0 1 rfl rfl;have p:=a.c 0 2 rfl rfl;have q:=a.c 0 3 rfl rfl;have r:=a.c 0 4 rfl rfl;have E:=a.c 1 0 rfl rfl;have F:=a.c 1 1 rfl rfl;have G:=a.c 1 2 rfl rfl;have H:=a.c 1 3 rfl rfl;have I:=a.c 1 4 rfl rfl;have u:=a.c 2 0 rfl rfl;have L:=a.c 2 1 rfl rfl;have M:=a.c 2 2 rfl rfl;have N:=a.c 2 3 rfl rfl;have O:=a.c 2 4 rfl rfl;rw[Nat.add_zero] at n o p q r;have HO:Hid (pU aI x.aA.length (.set sb)):=trivial
   go_wp2_with fail
   refine (BH sb _ R S T U x.aA _ (K3.out _ a.below).1 J X.out.1).mono ?_;clear n o p q r E F G H I u L M N O;rintro e w3 ⟨v',bq,rfl,hO,hq,d⟩;have T3:=a.call d;clear a d;obtain⟨y,hy⟩:∃y,y=bO x.aA.length (.set sb):=⟨_,rfl⟩;obtain⟨V,D⟩:∃V:Value,V=(.iface 185 (.agg #[.bool sb])):=⟨_,rfl⟩;have HV:Hid (∀v,fD aI x.aA.length h->v=V->∃s,iG h=some s∧v=dO s):=fun v _ hv=>⟨_,m.out,hv.trans D⟩;rw[← D];clear D
  case' clear=>
   simp only[dO];have m1:=Tryz.kV (.agg #[]);have m2:=Tryz.fQ (.agg #[])
   go_wp2_with fail
   refine (JV p0 p1 p2 p3 _ _ R S T U _).mono ?_;clear n o p q r E F G H I u L M N O;rintro e w2 ⟨rfl,c⟩;have a:=f.call c;clear f c;have n:=a.c 0 0 rfl rfl;have o:=a.c 0 1 rfl rfl;have p:=a.c 0 2 rfl rfl;have q:=a.c 0 3 rfl rfl;have r:=a.c 0 4 rfl rfl;have E:=a.c 1 0 rfl rfl;have F:=a.c 1 1 rfl rfl;have G:=a.c 1 2 rfl rfl;have H:=a.c 1 3 rfl rfl;have I:=a.c 1 4 rfl rfl;have u:=a.c 2 0 rfl rfl;have L:=a.c 2 1 rfl rfl;have M:=a.c 2 2 rfl rfl;have N:=a.c 2 3 rfl rfl;have O:=a.c 2 4 rfl rfl;rw[Nat.add_zero] at n o p q r;have HO:Hid (pU aI x.aA.length .clear):=trivial
   go_wp2_with fail
   refine (Ci _ R S T U x.aA _ (K3.out _ a.below).1 J X.out.1).mono ?_;clear n o p q r E F G H I u L M N O;rintro e w3 ⟨v',bq,rfl,hO,hq,d⟩;have T3:=a.call d;clear a d;obtain⟨y,hy⟩:∃y,y=bO x.aA.length .clear:=⟨_,rfl⟩;obtain⟨V,D⟩:∃V:Value,V=(.iface 187 (.agg #[])):=⟨_,rfl⟩;have HV:Hid (∀v,fD aI x.aA.length h->v=V->∃s,iG h=some s∧v=dO s):=fun v _ hv=>⟨_,m.out,hv.trans D⟩;rw[← D];clear D
  case' taking t=>
   simp only[dO];have m1:=Tryz.jZ (.agg #[.int .i64 t]);have m2:=Tryz.cG (.agg #[.int .i64 t])
   go_wp2_with fail
   refine (zs1 t aI p0 p1 p2 p3 _ R S T U _).mono ?_;clear n o p q r E F G H I u L M N O;rintro e w2 ⟨rfl,c⟩;have a:=f.call c;clear f c;have n:=a.c 0 0 rfl rfl;have o:=a.c 0 1 rfl rfl;have p:=a.c 0 2 rfl rfl;have q:=a.c 0 3 rfl rfl;have r:=a.c 0 4 rfl rfl;have E:=a.c 1 0 rfl rfl;have F:=a.c 1 1 rfl rfl;have G:=a.c 1 2 rfl rfl;have H:=a.c 1 3 rfl rfl;have I:=a.c 1 4 rfl rfl;have u:=a.c 2 0 rfl rfl;have L:=a.c 2 1 rfl rfl;have M:=a.c 2 2 rfl rfl;have N:=a.c 2 3 rfl rfl;have O:=a.c 2 4 rfl rfl;rw[Nat.add_zero] at n o p q r;by_cases Y:bN t 1 aI
   case neg=>
    rw[bE Y];have HO:=aD Y;clear Y;go_wp2;have K:¬fD aI x.aA.length h:=fun z=>HO.out ((Bj m.out Z.out J X.out.1).1 z).1;exact bodyPost_ret (v:=.tuple #[.nilIface,.bool false]) (by simp[results,Tryz.results95,go_sem]) rfl ⟨_,by rw[bE K],fun z=>absurd z K,a.below⟩
   rw[bQ Y];have HO:Hid (pU aI x.aA.length (.taking t)):=Y;clear Y
   go_wp2_with fail
   refine (xG t _ R S T U x.aA _ (K3.out _ a.below).1 J X.out.1).mono ?_;clear n o p q r E F G H I u L M N O;rintro e w3 ⟨v',bq,rfl,hO,hq,d⟩;have T3:=a.call d;clear a d;obtain⟨y,hy⟩:∃y,y=bO x.aA.length (.taking t):=⟨_,rfl⟩;obtain⟨V,D⟩:∃V:Value,V=(.iface 235 (.agg #[.int .i64 t])):=⟨_,rfl⟩;have HV:Hid (∀v,fD aI x.aA.length h->v=V->∃s,iG h=some s∧v=dO s):=fun v _ hv=>⟨_,m.out,hv.trans D⟩;rw[← D];clear D
  case' used g l b=>
   simp only[dO];have m1:=Tryz.lU (.agg (dI g l b));have m2:=Tryz.gF (.agg (dI g l b));have a4:l.length=30:=Jq m.out (by have:=Z.out; have:=X.out.1; omega)
   go_wp2_with fail
   refine (Jk g l b aI p0 p1 p2 p3 _ _ R S T U x.aA _ (K3.out _ f.below).1 X.out.1 a4).mono ?_;clear n o p q r E F G H I u L M N O;rintro e w2 ⟨rfl,c⟩;have a:=f.call c;clear f c;have n:=a.c 0 0 rfl rfl;have o:=a.c 0 1 rfl rfl;have p:=a.c 0 2 rfl rfl;have q:=a.c 0 3 rfl rfl;have r:=a.c 0 4 rfl rfl;have E:=a.c 1 0 rfl rfl;have F:=a.c 1 1 rfl rfl;have G:=a.c 1 2 rfl rfl;have H:=a.c 1 3 rfl rfl;have I:=a.c 1 4 rfl rfl;have u:=a.c 2 0 rfl rfl;have L:=a.c 2 1 rfl rfl;have M:=a.c 2 2 rfl rfl;have N:=a.c 2 3 rfl rfl;have O:=a.c 2 4 rfl rfl;rw[Nat.add_zero] at n o p q r;by_cases Y:pU aI x.aA.length (.used g l b)
   case neg=>
    rw[bE Y];have HO:=aD Y;clear Y;go_wp2;have K:¬fD aI x.aA.length h:=fun z=>HO.out ((Bj m.out Z.out J X.out.1).1 z).1;exact bodyPost_ret (v:=.tuple #[.nilIface,.bool false]) (by simp[results,Tryz.results95,go_sem]) rfl ⟨_,by rw[bE K],fun z=>absurd z K,a.below⟩
   rw[bQ Y];have HO:Hid (pU aI x.aA.length (.used g l b)):=Y;clear Y
   go_wp2_with fail
   refine (DT g l b _ R S T U x.aA _ (K3.out _ a.below).1 J X.out.1 a4).mono ?_;clear n o p q r E F G H I u L M N O;rintro e w3 ⟨v',bq,rfl,hO,hq,d⟩;have T3:=a.call d;clear a d;obtain⟨y,hy⟩:∃y,y=bO x.aA.length (.used g l b):=⟨_,rfl⟩;obtain⟨V,D⟩:∃V:Value,V=(.iface 190 (.agg (dI g l b))):=⟨_,rfl⟩;have HV:Hid (∀v,fD aI x.aA.length h->v=V->∃s,iG h=some s∧v=dO s):=fun v _ hv=>⟨_,m.out,hv.trans D⟩;rw[← D];clear D
  all_goals
   have P:=aD (Bj (aI:=aI) m.out Z.out J X.out.1)
   have aE:y.aL.length=x.aA.length:=by rw[hy]; exact JY m.out Z.out
   rw[← hy] at hO P ⊢;have aG:=aD aE;clear hy aE;have aJ:=aD hO;have aB:Bools (In w3) w3 v' y.aL:=hO.read hO.lt;obtain⟨gq,Mq,a1,rfl,-,-,-⟩:=hO;have A:=T3.call (bC w3 (.cells #[.int .i64 y.state,.int .i64 y.gone,.slice (some ⟨bq,0,none⟩) y.aL.length a1,.bool y.aR,.int .i64 y.aN] 44));have a5:=bC w3 (.cells #[.int .i64 y.state,.int .i64 y.gone,.slice (some ⟨bq,0,none⟩) y.aL.length a1,.bool y.aR,.int .i64 y.aN] 44);have a3:=aB.keep (In.keep a5).1 (In.keep a5).2;have aF:=aD (JX _ _ y.aL h.aL _ a3 (K1.out _ A.below) (by have:=X.out.1; have:=aG.out; omega) aH);have n:=A.c 0 0 rfl rfl;have o:=A.c 0 1 rfl rfl;have p:=A.c 0 2 rfl rfl;have q:=A.c 0 3 rfl rfl;have r:=A.c 0 4 rfl rfl;have E:=A.c 1 0 rfl rfl;have F:=A.c 1 1 rfl rfl;have G:=A.c 1 2 rfl rfl;have H:=A.c 1 3 rfl rfl;have I:=A.c 1 4 rfl rfl;have u:=A.c 2 0 rfl rfl;have L:=A.c 2 1 rfl rfl;have M:=A.c 2 2 rfl rfl;have N:=A.c 2 3 rfl rfl;have O:=A.c 2 4 rfl rfl;rw[Nat.add_zero] at n o p q r;have Q:¬(y.gone=h.gone∧y.aR=h.aR∧y.aN=h.aN∧y.aL=h.aL)->B (fD aI x.aA.length h)=false:=fun z=>bE fun k=>z (P.out.1 k).2;have C:=aD Q;clear Q aB a3 a5;by_cases e1:y.gone=h.gone
   case neg=>
    have k1:(y.gone == h.gone)=false:=by simpa using e1
    have E1:=aD e1;clear e1;go_wp2;exact bodyPost_ret (v:=.tuple #[V,.bool false]) (by simp[results,Tryz.results95,go_sem]) rfl ⟨_,by rw[C.out fun z=>E1.out z.1],fun z=>HV.out _ z rfl,A.below⟩
   have k1:(y.gone == h.gone)=true:=by simpa using e1
   have E1:=aD e1;clear e1;by_cases e2:y.aR=h.aR
   case neg=>
    have k2:(y.aR == h.aR)=false:=by simpa using e2
    have E2:=aD e2;clear e2;go_wp2;exact bodyPost_ret (v:=.tuple #[V,.bool false]) (by simp[results,Tryz.results95,go_sem]) rfl ⟨_,by rw[C.out fun z=>E2.out z.2.1],fun z=>HV.out _ z rfl,A.below⟩
   have k2:(y.aR == h.aR)=true:=by simpa using e2
   have E2:=aD e2;clear e2;by_cases e3:y.aN=h.aN
   case neg=>
    have k3:(y.aN == h.aN)=false:=by simpa using e3
    have E3:=aD e3;clear e3;go_wp2;exact bodyPost_ret (v:=.tuple #[V,.bool false]) (by simp[results,Tryz.results95,go_sem]) rfl ⟨_,by rw[C.out fun z=>E3.out z.2.2.1],fun z=>HV.out _ z rfl,A.below⟩
   have k3:(y.aN == h.aN)=true:=by simpa using e3
   have E3:=aD e3;clear e3
   go_wp2_with fail
   refine aF.out.mono ?_;clear n o p q r E F G H I u L M N O;rintro e w4 ⟨rfl,a7⟩;have T4:=A.call a7;have hB:B (y.aL=h.aL)=B (fD aI x.aA.length h):=lH ⟨fun z=>P.out.2 ⟨HO.out,E1.out,E2.out,E3.out,z⟩,fun z=>(P.out.1 z).2.2.2.2⟩;rw[hB];clear hB a7 k1 k2 k3;go_wp2;exact bodyPost_ret (v:=.tuple #[V,.bool (B (fD aI x.aA.length h))]) (by simp[results,Tryz.results95,go_sem]) rfl ⟨_,rfl,fun z=>HV.out _ z rfl,T4.below⟩
theorem Jc {l:List Bool}(h:l.length=30):∃x0 x1 x2 x3 x4 x5 x6 x7 x8 x9 x10 x11 x12 x13 x14 x15 x16 x17 x18 x19 x20 x21 x22 x23 x24 x25 x26 x27 x28 x29,l=[x0,x1,x2,x3,x4,x5,x6,x7,x8,x9,x10,x11,x12,x13,x14,x15,x16,x17,x18,x19,x20,x21,x22,x23,x24,x25,x26,x27,x28,x29]:=by
 match l,h with
 | [x0,x1,x2,x3,x4,x5,x6,x7,x8,x9,x10,x11,x12,x13,x14,x15,x16,x17,x18,x19,x20,x21,x22,x23,x24,x25,x26,x27,x28,x29],_=>exact⟨_,_,_,_,_,_,_,_,_,_,_,_,_,_,_,_,_,_,_,_,_,_,_,_,_,_,_,_,_,_,rfl⟩
theorem Tryz.lP {l:List Bool}(h:l.length=30):Tryz.prog.keyLits 2 188 (l.map Value.bool)=some (l.map Lit.bool):=by
 obtain⟨w,x,y,z,A,B,C,D,E,F,a,b,c,d,e,f,g,i,j,k,m,n,o,p,q,r,s,t,u,v,rfl⟩:=Jc h
 kernel_rfl
theorem JW {l r:List Bool}:l.map Lit.bool=r.map Lit.bool↔l=r:=by
 constructor
 ·intro h
  induction l generalizing r with
  | nil=>cases r with
   | nil=>rfl
   | cons a r=>cases h
  | cons a l ih=>cases r with
   | nil=>cases h
   | cons b r=>
    simp only[List.map_cons,List.cons.injEq,Lit.bool.injEq] at h;rw[h.1,ih h.2]
 ·rintro rfl;rfl
theorem Tryz.cells30:Tryz.prog.cellsOf 188=30:=by kernel_rfl
theorem Tryz.jF {l:List Bool}(h:l.length=30):Value.formed Tryz.prog 188 (.agg (l.map Value.bool).toArray)=true:=by
 simp[Value.formed,Tryz.underlying188,Tryz.cells30,h]
theorem Jt (d:Nat) (l r:List Bool) (a:l.length=30) (b:r.length=30) (w:World):(Op.equalIn (d+2) 188 (.agg (l.map Value.bool).toArray) (.agg (r.map Value.bool).toArray)).run Tryz.prog w=.ok (B (l=r)) w:=by
 obtain⟨q,f,hi⟩:=run_equalIn_deep (P:=Tryz.prog) d 2 188 (by kernel_rfl) w 2 2 (.agg (l.map Value.bool).toArray) (.agg (r.map Value.bool).toArray) (l.map Lit.bool) (r.map Lit.bool) (Tryz.jF a) (Tryz.jF b) (by simpa [Value.cells] using Tryz.lP a) (by simpa [Value.cells] using Tryz.lP b);rw[JW] at hi
 have c:q=B (l=r):=by
  cases q with
  | true=>exact (bQ (hi.1 rfl)).symm
  | false=>exact (bE fun e=>by have:=hi.2 e; cases this).symm
 rw[f,c]
theorem El {xs:Array Value}{v:Value}(h:xs[0]?=some v) (w:World):(part 3 xs 0).run Tryz.prog w=.ok v w:=run_part_plain w (by kernel_rfl) h
theorem Ei {xs:Array Value}{v:Value}(h:xs[31]?=some v) (w:World):(part 4 xs 31).run Tryz.prog w=.ok v w:=run_part_plain w (by kernel_rfl) h
theorem Eh (xs:Array Value) (w:World):(part 188 xs 1).run Tryz.prog w=.ok (.agg (xs.extract 1 31)) w:=by
 have a:(isAgg 188).run Tryz.prog w=.ok true w:=by kernel_rfl
 have b:(sizeOf 188).run Tryz.prog w=.ok 30 w:=by kernel_rfl
 unfold part;simp[a]
theorem Eo (g:Int) (l:List Bool) (b:Bool):(dI g l b)[0]?=some (.int .i64 g):=by rw[← Array.getElem?_toList,pO]; rfl
theorem En {g:Int}{l:List Bool}{b:Bool}(h:l.length=30):(dI g l b)[31]?=some (.bool b):=by
 rw[← Array.getElem?_toList,pO,List.getElem?_cons_succ,List.getElem?_append_right (by simp[h])];simp[h]
theorem Ef {g:Int}{l:List Bool}{b:Bool}(h:l.length=30):(dI g l b).extract 1 31=(l.map Value.bool).toArray:=by
 apply Array.toList_inj.1;rw[Array.toList_extract,pO];simp[List.extract,h]
theorem Tryz.usedFields : ∃f0 f1 f2 : Field, (Tryz.prog.fieldsOf 190).toList=[f0, f1, f2]∧(f0.name≠"_"∧f0.type=3∧f0.offset=0)∧(f1.name≠"_"∧f1.type=188∧f1.offset=1)∧(f2.name≠"_"∧f2.type=4∧f2.offset=31) := by
 refine⟨_,_,_,by simp only[Program.fieldsOf,Tryz.underlying190]; rfl,⟨by decide,rfl,rfl⟩,⟨by decide,rfl,rfl⟩,⟨by decide,rfl,rfl⟩⟩
theorem Tryz.nS:Tryz.prog.underlying 190=some (.struct (Tryz.prog.fieldsOf 190)):=by kernel_rfl
theorem Tryz.pE:Tryz.prog.stoodInHeld 190=false:=by kernel_rfl
theorem zs2 {P : Program}{w : World}{d : Nat}{xs ys : Array Value}{a f1 b : Field}{g j h k i l : Value}{c e f : Bool}(p : a.name≠"_") (q : f1.name≠"_") (r : b.name≠"_")
  (s:(part a.type xs a.offset).run P w=.ok g w) (v:(part a.type ys a.offset).run P w=.ok j w) (m:(Op.equalIn d a.type g j).run P w=.ok c w)
  (t:(part f1.type xs f1.offset).run P w=.ok h w) (x:(part f1.type ys f1.offset).run P w=.ok k w) (n:(Op.equalIn d f1.type h k).run P w=.ok e w)
  (u:(part b.type xs b.offset).run P w=.ok i w) (y:(part b.type ys b.offset).run P w=.ok l w) (o:(Op.equalIn d b.type i l).run P w=.ok f w) :
  (Op.eqFields d xs ys [a,f1,b]).run P w=.ok (c&&e&&f) w:=by
 cases c <;> cases e <;> cases f <;> simp[Op.eqFields,p,q,r,s,v,m,t,x,n,u,y,o]
theorem Ja (d:Nat) (g a:Int) (l c:List Bool) (b b':Bool) (k:l.length=30) (e:c.length=30) (w:World) :
  (Op.equalIn (d+3) 190 (.agg (dI g l b)) (.agg (dI a c b'))).run Tryz.prog w=.ok (B (g=a∧l=c∧b=b')) w:=by
 obtain⟨y,f1,z,x,⟨p,f,m⟩,⟨q,i,n⟩,⟨r,j,o⟩⟩:=Tryz.usedFields
 have h:=zs2 (P:=Tryz.prog) (w:=w) (d:=d+2) (xs:=dI g l b) (ys:=dI a c b') p q r
  (by rw[f,m]; exact El (Eo g l b) w) (by rw[f,m]; exact El (Eo a c b') w) (by rw[f]; exact run_equalIn_int (P:=Tryz.prog) w (d+1) 3 .i64 .i64 g a Tryz.underlying3)
  (by rw[i,n]; exact Eh (dI g l b) w) (by rw[i,n]; exact Eh (dI a c b') w) (by rw[i,Ef k,Ef e]; exact Jt d l c k e w)
  (by rw[j,o]; exact Ei (En (g:=g) (b:=b) k) w) (by rw[j,o]; exact Ei (En (g:=a) (b:=b') e) w) (by rw[j]; exact run_equalIn_bool' (P:=Tryz.prog) w (d+1) 4 b b' Tryz.underlying4)
 rw[run_equalIn_struct w (d+2) 190 _ _ Tryz.nS Tryz.pE,x,h]
 have v:((g == a)&&B (l=c)&&(b == b'))=B (g=a∧l=c∧b=b'):=by
  unfold B
  by_cases s:g=a <;> by_cases t:l=c <;> by_cases u:b=b' <;> simp[s,t,u]
 rw[v]
theorem kR {b c:TypeId}(e f:Value) (a:b≠c) (w:World):(binOp .neq 134 (.iface b e) (.iface c f)).run Tryz.prog w=.ok (.bool true) w:=by
 have h:∀d:Nat,(Op.equalIn (d+1) 134 (.iface b e) (.iface c f)).run Tryz.prog w=.ok false w:=fun d=>by simp[Op.equalIn,run_underlying Tryz.underlying134,a]
 simp only[binOp];simp[Op.equal,Op.maxDepth,h 9999]
theorem Ji {t:TypeId}{x y:Value}{i:TypeInfo}{d:Nat}{w:World}(hi:Tryz.prog.info? t=some i) (a:i.comparable=true):(Op.equalIn (d+1) 134 (.iface t x) (.iface t y)).run Tryz.prog w=(Op.equalIn d t x y).run Tryz.prog w:=by
 simp[Op.equalIn,run_underlying Tryz.underlying134,typeInfo,hi,a]
theorem yF {t:TypeId}{x y:Value}{r:Bool}(b:(Tryz.prog.info? t).map (·.comparable)=some true) (w:World) (c:(Op.equalIn 9999 t x y).run Tryz.prog w=.ok r w):(binOp .neq 134 (.iface t x) (.iface t y)).run Tryz.prog w=.ok (.bool (!r)) w:=by
 obtain⟨i,hi,a⟩:=Option.map_eq_some_iff.1 b
 have h:(Op.equalIn (9999+1) 134 (.iface t x) (.iface t y)).run Tryz.prog w=.ok r w:=by
  rw[Ji hi a];exact c
 simp only[binOp];simp[Op.equal,Op.maxDepth,h]
theorem Eg {d : Nat}{t ft : TypeId}{x y : Value}{r : Bool}{w : World}(j : ∃f : Field, (Tryz.prog.fieldsOf t).toList=[f]∧f.name≠"_"∧f.type=ft∧f.offset=0) (k : Tryz.prog.underlying t=some (.struct (Tryz.prog.fieldsOf t))) (i : Tryz.prog.stoodInHeld t=false) (a : Tryz.prog.plainKey ft=true)
  (g:(Op.equalIn d ft x y).run Tryz.prog w=.ok r w):(Op.equalIn (d+1) t (.agg #[x]) (.agg #[y])).run Tryz.prog w=.ok r w:=by
 obtain⟨f,h,b,c,e⟩:=j;rw[run_equalIn_struct w d t _ _ k i,h];have l:=run_part_plain (P:=Tryz.prog) w a (xs:=#[x]) (off:=0) (v:=x) rfl;have m:=run_part_plain (P:=Tryz.prog) w a (xs:=#[y]) (off:=0) (v:=y) rfl
 cases r <;> simp[Op.eqFields,b,c,e,l,m,g]
theorem Ek {d:Nat}{t:TypeId}{w:World}(b:(Tryz.prog.fieldsOf t).toList=[]) (c:Tryz.prog.underlying t=some (.struct (Tryz.prog.fieldsOf t))) (a:Tryz.prog.stoodInHeld t=false):(Op.equalIn (d+1) t (.agg #[]) (.agg #[])).run Tryz.prog w=.ok true w:=by
 rw[run_equalIn_struct w d t _ _ c a,b];simp[Op.eqFields]
def Bm:bL->Prop
 | .inr (.inr (.inr (.inr (_,l,_))))=>l.length=30
 | _=>True
theorem Jd (a c:bL) (f:Bm a) (i:Bm c) (w:World):(binOp .neq 134 (dO a) (dO c)).run Tryz.prog w=.ok (.bool (!(B (a=c)))) w:=by
 cases a using bL.by with
 | idle=>
  cases c using bL.by with
  | idle=>rw[bQ rfl]; exact yF (by kernel_rfl) w (Ek (by simp[Program.fieldsOf,Tryz.underlying103]) (by kernel_rfl) (by kernel_rfl))
  | set b2=>rw[bE (show ¬(bL.idle=bL.set b2) from fun z=>by cases z)]; exact kR _ _ (by decide) w
  | clear=>rw[bE (show ¬(bL.idle=bL.clear) from fun z=>by cases z)]; exact kR _ _ (by decide) w
  | taking t2=>rw[bE (show ¬(bL.idle=bL.taking t2) from fun z=>by cases z)]; exact kR _ _ (by decide) w
  | used g2 l2 b2=>rw[bE (show ¬(bL.idle=bL.used g2 l2 b2) from fun z=>by cases z)]; exact kR _ _ (by decide) w
 | set b=>
  cases c using bL.by with
  | idle=>rw[bE (show ¬(bL.set b=bL.idle) from fun z=>by cases z)]; exact kR _ _ (by decide) w
  | set b2=>
   have h:=yF (t:=185) (x:=.agg #[.bool b]) (y:=.agg #[.bool b2]) (by kernel_rfl) w (Eg (d:=9998) (ft:=4) ⟨_,by simp only[Program.fieldsOf,Tryz.underlying185]; rfl,by decide,rfl,rfl⟩ (by kernel_rfl) (by kernel_rfl) (by kernel_rfl) (run_equalIn_bool' (P:=Tryz.prog) w 9997 4 b b2 Tryz.underlying4));refine h.trans ?_;by_cases e:b=b2
   ·rw[bQ (show bL.set b=bL.set b2 by rw[e]),show (b == b2)=true by simpa using e]
   ·rw[bE (show ¬(bL.set b=bL.set b2) from fun z=>by cases z; exact e rfl),show (b == b2)=false by simpa using e]
  | clear=>rw[bE (show ¬(bL.set b=bL.clear) from fun z=>by cases z)]; exact kR _ _ (by decide) w
  | taking t2=>rw[bE (show ¬(bL.set b=bL.taking t2) from fun z=>by cases z)]; exact kR _ _ (by decide) w
  | used g2 l2 b2=>rw[bE (show ¬(bL.set b=bL.used g2 l2 b2) from fun z=>by cases z)]; exact kR _ _ (by decide) w
 | clear=>
  cases c using bL.by with
  | idle=>rw[bE (show ¬(bL.clear=bL.idle) from fun z=>by cases z)]; exact kR _ _ (by decide) w
  | set b2=>rw[bE (show ¬(bL.clear=bL.set b2) from fun z=>by cases z)]; exact kR _ _ (by decide) w
  | clear=>rw[bQ rfl]; exact yF (by kernel_rfl) w (Ek (by simp[Program.fieldsOf,Tryz.underlying187]) (by kernel_rfl) (by kernel_rfl))
  | taking t2=>rw[bE (show ¬(bL.clear=bL.taking t2) from fun z=>by cases z)]; exact kR _ _ (by decide) w
  | used g2 l2 b2=>rw[bE (show ¬(bL.clear=bL.used g2 l2 b2) from fun z=>by cases z)]; exact kR _ _ (by decide) w
 | taking t=>
  cases c using bL.by with
  | idle=>rw[bE (show ¬(bL.taking t=bL.idle) from fun z=>by cases z)]; exact kR _ _ (by decide) w
  | set b2=>rw[bE (show ¬(bL.taking t=bL.set b2) from fun z=>by cases z)]; exact kR _ _ (by decide) w
  | clear=>rw[bE (show ¬(bL.taking t=bL.clear) from fun z=>by cases z)]; exact kR _ _ (by decide) w
  | taking t2=>
   have h:=yF (t:=235) (x:=.agg #[.int .i64 t]) (y:=.agg #[.int .i64 t2]) (by kernel_rfl) w (Eg (d:=9998) (ft:=3) ⟨_,by simp only[Program.fieldsOf,Tryz.underlying235]; rfl,by decide,rfl,rfl⟩ (by kernel_rfl) (by kernel_rfl) (by kernel_rfl) (run_equalIn_int (P:=Tryz.prog) w 9997 3 .i64 .i64 t t2 Tryz.underlying3));refine h.trans ?_;by_cases e:t=t2
   ·rw[bQ (show bL.taking t=bL.taking t2 by rw[e]),show (t == t2)=true by simpa using e]
   ·rw[bE (show ¬(bL.taking t=bL.taking t2) from fun z=>by cases z; exact e rfl),show (t == t2)=false by simpa using e]
  | used g2 l2 b2=>rw[bE (show ¬(bL.taking t=bL.used g2 l2 b2) from fun z=>by cases z)]; exact kR _ _ (by decide) w
 | used g l b=>
  cases c using bL.by with
  | idle=>rw[bE (show ¬(bL.used g l b=bL.idle) from fun z=>by cases z)]; exact kR _ _ (by decide) w
  | set b2=>rw[bE (show ¬(bL.used g l b=bL.set b2) from fun z=>by cases z)]; exact kR _ _ (by decide) w
  | clear=>rw[bE (show ¬(bL.used g l b=bL.clear) from fun z=>by cases z)]; exact kR _ _ (by decide) w
  | taking t2=>rw[bE (show ¬(bL.used g l b=bL.taking t2) from fun z=>by cases z)]; exact kR _ _ (by decide) w
  | used g2 l2 b2=>
   have h:=yF (t:=190) (by kernel_rfl) w (Ja 9996 g g2 l l2 b b2 f i w);refine h.trans ?_;rw[lH (p:=g=g2∧l=l2∧b=b2) (q:=bL.used g l b=bL.used g2 l2 b2) ⟨fun z=>by rw[z.1,z.2.1,z.2.2],fun z=>by cases z; exact⟨rfl,rfl,rfl⟩⟩]
def Bi (m:Nat) (aC:List (Int×Int)):Prop:=aC.length=m∧∀(k:Nat) x,aC[k]?=some x->pI x
set_option maxRecDepth 100000 in
set_option maxHeartbeats 2000000 in
theorem J7 (n C F G ok f1 K v:Value) (t:Option Addr) (m h:Nat) (aC:List (Int×Int)) (w:World) (D:Lies (In w) w K aC) (_hm:m<=1048576) (W:aC.length<=1048576) :
  Calls Tryz.prog 50 #[.agg #[n,.slice t m h,F,G,C],.agg #[ok,f1,K,v]] w fun e w'=>e=.returned (.bool (B (Bi m aC)))∧Below w.heap.size w w':=by
 obtain⟨J,u,rfl,O⟩:=D;have P:=aD O;have r:=eB w 27 40 #[n,.slice t m h,F,G,C] #[ok,f1,.slice J aC.length u,v];clear O;go_enter Tryz.func50,Tryz.ntmps50;by_cases i:aC.length=m
 case neg=>
  have S:((aC.length:Int) != (m:Int))=true:=by simp; omega
  have o:=aD i;clear i;go_wp2;go_ret;exact⟨bI (bE fun z=>o.out z.1).symm,r.below⟩
 have S:((aC.length:Int) != (m:Int))=false:=by simp; omega
 have o:=aD i;clear i;go_wp2
 go_loopw [17] (fun z wr=>∃(q:Nat),q<=aC.length∧z=.int .i64 q∧(∀(k:Nat) x,k<q->aC[k]?=some x->pI x)∧bD w [(27,#[n,.slice t m h,F,G,C]),(40,#[ok,f1,.slice J aC.length u,v])] wr) (fun z _=>aC.length-(intOf z).toNat)
 case atStart=>exact⟨0,Nat.zero_le _,rfl,fun k x R=>by omega,r⟩
 case round=>
  obtain⟨q,X,rfl,b,s⟩:=hrel;have H:=aD b;clear b r;by_cases g:q<aC.length
  ·obtain V | ⟨Q,Y,rfl,A,N⟩:=P.out
   ·omega
   obtain⟨y,E⟩:=eU aC g;obtain⟨L,M⟩:=N q g y E;rw[← s.below.cell (p:=⟨Q,_,none⟩) A] at L M;have I:=aD E;have c:=s.call (bC _ (.cells #[.int .i64 y.1,.int .i64 y.2] 46));have f:¬pI y->B (Bi m aC)=false:=fun z=>bE fun k=>z (k.2 q y I.out);have a:=aD f;obtain⟨j,l⟩:=y;clear E N f;dsimp only at L M c;by_cases h:j<1
   ·go_wp2;go_ret;exact⟨bI (a.out fun z=>by have:=z.1.1; dsimp only at this; omega).symm,c.below⟩
   by_cases u:2<j
   ·go_wp2;go_ret;exact⟨bI (a.out fun z=>by have:=z.1.2; dsimp only at this; omega).symm,c.below⟩
   by_cases T:l<0
   ·go_wp2;go_ret;exact⟨bI (a.out fun z=>by have:=z.2.1; dsimp only at this; omega).symm,c.below⟩
   by_cases U:2<l
   ·go_wp2;go_ret;exact⟨bI (a.out fun z=>by have:=z.2.2; dsimp only at this; omega).symm,c.below⟩
   go_wp2;go_roundw
   case rel=>exact⟨q+1,by omega,by go_num,fun k x R d=>by
    by_cases e:k=q
    ·subst e; rw[I.out] at d; cases d; exact⟨⟨by show 1<=j; omega,by show j<=2; omega⟩,⟨by show 0<=l; omega,by show l<=2; omega⟩⟩
    ·exact H.out k x (by omega) d,c⟩
   case measure=>simp[intOf]; omega
  ·go_wp2;go_ret;exact⟨bI (bQ ⟨o.out,fun k x d=>H.out k x (by have:=(List.getElem?_eq_some_iff.1 d).1; omega) d⟩).symm,s.below⟩
def zX (p:aK) (d:aF) (i k:Nat):Prop:=∃h g,p.bar i k=some true∧d.aB[i]?=some h∧d.aB[k]?=some g∧h.state≠0∧g.state≠0
def zW (p:aK) (d:aF):Prop:=∃i k,i<p.aB.length∧k<i∧zX p d i k
set_option maxRecDepth 100000 in
set_option maxHeartbeats 4000000 in
theorem J3 (M ok K p2 p3 f1 u m:Value) (p:aK) (d:aF) (w:World) (hp:aZ (In w) w K p2 p3 p) (hf:bB (In w) w f1 u m d) (L:Right p) (hl:d.aB.length=p.aB.length) :
  Calls Tryz.prog 52 #[.agg #[.int .i64 p.aA,K,p2,p3,M],.agg #[ok,f1,u,m]] w fun e w'=>e=.returned (.bool (B (zW p d)))∧Below w.heap.size w w':=by
 have hn:p.aB.length<=100:=L.parts.1.2.2.1;obtain⟨X,Z,rfl⟩:=hp.2.1.size;obtain⟨Y,c3,rfl,v⟩:=hp.2.2;have F:p.aO.length=p.aB.length:=L.parts.2.2.2.1;rw[F] at v ⊢;have T0:=eB w 27 40 #[.int .i64 p.aA,K,.slice X p.aB.length Z,.slice Y p.aB.length c3,M] #[ok,f1,u,m];have G:∀W,Below w.heap.size w W->dF (In W) W m d.aB:=fun W h=>hf.2.2.keep (In.keep h).1 (In.keep h).2;have KF:=aD G;have P:=aD v;have HR:=aD L;have S:=aD hl;have c:∀(W:World) (i:Nat) h,Below w.heap.size w W->d.aB[i]?=some h->Calls Tryz.prog 97 #[.agg #[ok,f1,u,m],.int .i64 i] W fun e w'=>e=.returned (.bool (h.state != 0))∧Below W.heap.size W w':=fun W i h hW hi=>BK ok f1 u m d.aB i h W (KF.out _ hW) hi (by have:=S.out; omega);have a:=aD c;clear G hp hf v L F hl c;go_enter Tryz.func52,Tryz.ntmps52;go_wp2
 go_loopw [10] (fun z wr=>∃(i:Nat),i<=p.aB.length∧z=.int .i64 i∧(∀j k,j<i->k<j->¬zX p d j k)∧bD w [(27,#[.int .i64 p.aA,K,.slice X p.aB.length Z,.slice Y p.aB.length c3,M]),(40,#[ok,f1,u,m])] wr) (fun z _=>p.aB.length-(intOf z).toNat)
 case atStart=>exact⟨0,Nat.zero_le _,rfl,fun j k hj=>by omega,T0⟩
 case round=>
  obtain⟨i,hi,rfl,I,V⟩:=hrel;rename World=>wo;have C:=aD I;clear I T0;by_cases l:i<p.aB.length
  ·obtain⟨h,hh⟩:=bG d.aB S l;have R:=aD hh;clear hh;go_wp2
   go_loopw [14] (fun z wr=>∃(k:Nat),k<=i∧z=.int .i64 k∧(∀j,j<k->¬zX p d i j)∧bD w [(27,#[.int .i64 p.aA,K,.slice X p.aB.length Z,.slice Y p.aB.length c3,M]),(40,#[ok,f1,u,m])] wr) (fun z _=>i-(intOf z).toNat)
   case atStart=>exact⟨0,Nat.zero_le _,rfl,fun j hj=>by omega,V⟩
   case round=>
    obtain⟨k,hk,rfl,H,b⟩:=hrel;have A:=aD H;clear H V;by_cases a4:k<i
    ·obtain⟨g,hg⟩:=bG d.aB S (k:=k) (by omega);have Q:=aD hg;obtain⟨r,bb,hr,a7,hrb,n⟩:=HR.out.row l (k:=k) (by omega);obtain h0 | ⟨b3,o3,rfl,a0,o⟩:=P.out
     ·omega
     obtain⟨v0,a5,e0⟩:=o i l r hr;obtain⟨av,cv,rfl,h0 | ⟨bv,ov,rfl,a1,f⟩⟩:=a5
     ·omega
     have e1:=f k (by omega) bb hrb;rw[← b.below.cell (p:=⟨b3,_,none⟩) a0] at e0;rw[← b.below.cell (p:=⟨bv,_,none⟩) a1] at e1
     have a6:(k:Int)<(r.length:Int):=by omega
     have HB:=aD n
     have J:(bb=true->h.state≠0->g.state=0)->∀j,j<k+1->¬zX p d i j:=fun hz j hj=>by
      by_cases e:j=k
      ·subst e;rintro⟨h',g',N,O,k3,k4,k5⟩;rw[R.out] at O;rw[Q.out] at k3
       cases O
       cases k3
       rw[HB.out] at N;exact k5 (hz (Option.some.inj N) k4)
      ·exact A.out j (by omega)
     have s:=aD J;have q0:=b.c 1 0 rfl rfl;have q1:=b.c 1 1 rfl rfl;have q2:=b.c 1 2 rfl rfl;have q3:=b.c 1 3 rfl rfl;have D:=b.c 0 3 rfl rfl;rw[Nat.add_zero] at D;clear hg hr hrb n o f J
     cases bb
     ·go_wp2;go_roundw
      case rel=>exact⟨k+1,by omega,by go_num,s.out (fun z=>by cases z),b⟩
      case measure=>simp[intOf]; omega
     ·go_wp2_with fail
      refine (a.out _ i h b.below R.out).mono ?_;rintro e w3 ⟨rfl,E⟩;have t:=b.call E;clear E q0 q1 q2 q3 D e0 e1;have q0:=t.c 1 0 rfl rfl;have q1:=t.c 1 1 rfl rfl;have q2:=t.c 1 2 rfl rfl;have q3:=t.c 1 3 rfl rfl;by_cases x:h.state=0
      ·have N:(h.state != 0)=false:=by simp[x]
       have T:=aD x;clear x;go_wp2;go_roundw
       case rel=>exact⟨k+1,by omega,by go_num,s.out (fun _ z=>absurd T.out z),t⟩
       case measure=>simp[intOf]; omega
      have N:(h.state != 0)=true:=by simp[x]
      have T:=aD x;clear x
      go_wp2_with fail
      refine (a.out _ k g t.below Q.out).mono ?_;rintro e w4 ⟨rfl,E⟩;have T4:=t.call E;clear E q0 q1 q2 q3;by_cases y:g.state=0
      ·have O:(g.state != 0)=false:=by simp[y]
       have U:=aD y;clear y;go_wp2;go_roundw
       case rel=>exact⟨k+1,by omega,by go_num,s.out (fun _ _=>U.out),T4⟩
       case measure=>simp[intOf]; omega
      have O:(g.state != 0)=true:=by simp[y]
      have U:=aD y;clear y;go_wp2;go_ret;exact⟨bI (bQ ⟨i,k,l,a4,h,g,HB.out,R.out,Q.out,T.out,U.out⟩).symm,T4.below⟩
    ·go_wp2;go_roundw
     case rel=>exact⟨i+1,by omega,by go_num,fun j q hj hq=>by
      by_cases e:j=i
      ·subst e; exact A.out q (by omega)
      ·exact C.out j q (by omega) hq,b⟩
     case measure=>simp[intOf]; omega
  ·go_wp2;go_ret;exact⟨bI (bE fun ⟨j,q,h1,h2,h3⟩=>C.out j q (by omega) h2 h3).symm,V.below⟩
def yG (p:aK) (d:aF) (i:Nat):Prop:=∀x h,p.aB[i]?=some x->d.aB[i]?=some h->fD p.aI x.aA.length h∧eC d.aH d.aC x h=h
theorem Jf {aI:Int}{aH:List Bool}{aC:List (Int×Int)}{x:aT}{h:aM}{s:bL}(i:iG h=some s) (g:fD aI x.aA.length h) (f:1<=x.aA.length) (e:x.aA.length<=30):mU aH aC x s=s↔eC aH aC x h=h:=by
 obtain⟨k,c,-,d,b⟩:=yC e g;rw[i] at c
 cases c
 obtain⟨a,j⟩:=BZ (aH:=aH) (aC:=aC) (w:=x) d f e;rw[b] at a;constructor
 ·intro z;rw[z,b] at a;exact a.symm
 ·intro z;refine Jg j d ?_;rw[a,b,z]
theorem Em (s:bL):∃t v,dO s=.iface t v:=by cases s using bL.by <;> exact⟨_,_,rfl⟩
theorem Jr (a c:bL) (x y:Operand) (w:World):(eqGuard .neq 134 x y (dO a) (dO c)).run Tryz.prog w=.ok () w:=by
 obtain⟨e,v1,b⟩:=Em a;obtain⟨f,v2,d⟩:=Em c;rw[b,d];rfl
theorem Ep {n:Nat}{s:bL}(h:iF n s):Bm s:=by
 cases s using bL.by with
 | used g l b=>exact h.1
 | _=>trivial
set_option maxRecDepth 100000 in
set_option maxHeartbeats 8000000 in
theorem Jl (ok X p2 Y f1 N f3:Value) (p:aK) (d:aF) (w:World) (hp:aZ (In w) w X p2 Y p) (hf:bB (In w) w f1 N f3 d) (hR:Right p) (ho:(d.aH.length:Int)=p.aA) (aS:d.aC.length=p.aE.length) (hd:d.Small 1048576) :
  Calls Tryz.prog 51 #[.agg #[.int .i64 p.aA,X,p2,Y,.int .i64 p.aI],.agg #[ok,f1,N,f3]] w fun e w'=>e=.returned (.bool (B (d.aB.length=p.aB.length∧∀i,i<p.aB.length->yG p d i)))∧Below w.heap.size w w':=by
 have hn:p.aB.length<=100:=hR.parts.1.2.2.1;have T0:=eB w 27 40 #[.int .i64 p.aA,X,p2,Y,.int .i64 p.aI] #[ok,f1,N,f3];have aM:∀W,Below w.heap.size w W->bB (In W) W f1 N f3 d:=fun W h=>hf.keep (In.keep h).1 (In.keep h).2;have KF:=aD aM;obtain⟨a2,c2,rfl,a5⟩:=hp.2.1;obtain⟨a3,c3,rfl,a6⟩:=hf.2.2;have b5:=aD a5;have b6:=aD a6;have HR:=aD hR;have HO:=aD ho;have b9:=aD aS;have HD:=aD hd;clear aM hp hf a5 a6 hR ho aS;obtain⟨bH,bJ,bK,a9⟩:=hd;have b7:=aD a9;clear a9;go_enter Tryz.func51,Tryz.ntmps51;by_cases Z:d.aB.length=p.aB.length
 case neg=>
  have k0:((d.aB.length:Int) != (p.aB.length:Int))=true:=by simp; omega
  have R:=aD Z;clear Z;go_wp2;go_ret;exact⟨bI (bE fun z=>R.out z.1).symm,T0.below⟩
 have k0:((d.aB.length:Int) != (p.aB.length:Int))=false:=by simp; omega
 have R:=aD Z;clear Z;go_wp2
 go_loopw [19] (fun z wr=>∃(i:Nat),i<=p.aB.length∧z=.int .i64 i∧(∀j,j<i->yG p d j)∧bD w [(27,#[.int .i64 p.aA,X,.slice a2 p.aB.length c2,Y,.int .i64 p.aI]),(40,#[ok,f1,N,.slice a3 d.aB.length c3])] wr) (fun z _=>p.aB.length-(intOf z).toNat)
 case atStart=>exact⟨0,Nat.zero_le _,rfl,fun j hj=>by omega,T0⟩
 case round=>
  obtain⟨i,hi,rfl,O,T1⟩:=hrel;have HA:=aD O;clear O T0;by_cases J:i<p.aB.length
  ·obtain⟨x,hx⟩:=eU p.aB J;obtain⟨h,hh⟩:=bG d.aB R J;have a:=HR.out.way hx;have S:=a.small;obtain h0 | ⟨bw,ow,rfl,a4,a8⟩:=b5.out
   ·omega
   obtain⟨v0,v1,v2,v3,v4,b,g0,g1,g2,g3,g4⟩:=a8 i J x hx;obtain h0 | ⟨bh,oh,rfl,a1,a7⟩:=b6.out
   ·have:=R.out; omega
   obtain⟨y2,V,j0,j1,j2,j3,j4⟩:=a7 i (by have:=R.out; omega) h hh;obtain⟨s0,r,rfl⟩:=b.1.size;obtain⟨l,t,rfl⟩:=b.2.1.size;obtain⟨m,u,rfl⟩:=b.2.2.1.size;obtain⟨n,A,rfl⟩:=b.2.2.2.1.size;obtain⟨o,C,rfl⟩:=b.2.2.2.2.size;have bN:bw<w.heap.size:=a4;have bM:bh<w.heap.size:=a1;rw[← T1.below.cell (p:=⟨bw,_,none⟩) a4] at g0 g1 g2 g3 g4;have I:=T1.call (bC wr (.cells #[.slice s0 x.aA.length r,.slice l x.aQ.length t,.slice m x.aJ.length u,.slice n x.over.length A,.slice o x.aW.length C] 51));have T3:=I.call (cT _);rw[← I.below.cell (p:=⟨bh,_,none⟩) a1] at j0 j1 j2 j3 j4;have U:∀W,Below w.heap.size w W->cC (In W) W (.slice s0 x.aA.length r) (.slice l x.aQ.length t) (.slice m x.aJ.length u) (.slice n x.over.length A) (.slice o x.aW.length C) x:=fun W k=>b.keep (In.keep k).1 (In.keep k).2;have aY:∀W,Below w.heap.size w W->Bools (In W) W y2 h.aL:=fun W k=>V.keep (In.keep k).1 (In.keep k).2;have KX:=aD U;obtain⟨ay,cy,rfl⟩:=V.size
   have K:1<=x.aA.length:=by
    rcases Nat.eq_zero_or_pos x.aA.length with z | z
    ·exact absurd (List.length_eq_zero_iff.1 z) a.1
    ·exact z
   have F:Calls Tryz.prog 95 #[.agg #[.int .i64 p.aA,X,.slice (some ⟨bw,ow,none⟩) p.aB.length c2,Y,.int .i64 p.aI],.agg #[.slice s0 x.aA.length r,.slice l x.aQ.length t,.slice m x.aJ.length u,.slice n x.over.length A,.slice o x.aW.length C],.agg #[.int .i64 h.state,.int .i64 h.gone,.slice ay h.aL.length cy,.bool h.aR,.int .i64 h.aN]] (wr.alloc (.cells #[.slice s0 x.aA.length r,.slice l x.aQ.length t,.slice m x.aJ.length u,.slice n x.over.length A,.slice o x.aW.length C] 51)).drew fun e w'=>∃v,e=.returned (.tuple #[v,.bool (B (fD p.aI x.aA.length h))])∧(fD p.aI x.aA.length h->∃s,iG h=some s∧v=dO s)∧bD w [(27,#[.int .i64 p.aA,X,.slice (some ⟨bw,ow,none⟩) p.aB.length c2,Y,.int .i64 p.aI]),(40,#[ok,f1,N,.slice (some ⟨bh,oh,none⟩) d.aB.length c3])] w'∧(w'.cell? ⟨wr.heap.size,0,none⟩=some (.slice s0 x.aA.length r)∧w'.cell? ⟨wr.heap.size,1,none⟩=some (.slice l x.aQ.length t)∧w'.cell? ⟨wr.heap.size,2,none⟩=some (.slice m x.aJ.length u)∧w'.cell? ⟨wr.heap.size,3,none⟩=some (.slice n x.over.length A)∧w'.cell? ⟨wr.heap.size,4,none⟩=some (.slice o x.aW.length C)):=by
    refine (zs0 _ _ _ _ _ _ _ _ _ _ p.aI h x _ (U _ T3.below) (aY _ T3.below) S K (b7.out h (List.mem_of_getElem? hh))).mono ?_;rintro e w' ⟨v,rfl,T,hb⟩;have hr:=eV (eV (dH wr 51 #[.slice s0 x.aA.length r,.slice l x.aQ.length t,.slice m x.aJ.length u,.slice n x.over.length A,.slice o x.aW.length C]) (cT _)) hb;exact⟨v,rfl,T,T3.call hb,by simpa using hr.cell (i:=0) (by simp),by simpa using hr.cell (i:=1) (by simp),by simpa using hr.cell (i:=2) (by simp),by simpa using hr.cell (i:=3) (by simp),by simpa using hr.cell (i:=4) (by simp)⟩
   have D:=aD F
   have aU:∀s,(s∈x.aA∨s∈x.over)->0<=s∧s<d.aH.length:=fun s hs=>by
    have e:=HO.out;rcases hs with z | z
    ·have:=a.2.1.mem z; omega
    ·have:=a.2.2.1.mem z; omega
   have aO:∀y,(y∈x.aQ∨y∈x.aJ)->0<=y.1∧y.1<d.aC.length:=fun y hy=>by
    have e:=b9.out;rcases hy with z | z
    ·have:=a.2.2.2.2.1.mem z; omega
    ·have:=a.2.2.2.2.2.1.mem z; omega
   have bA:=aD aU;have b8:=aD aO;have H:=aD S;have HX:=aD hx;have HH:=aD hh;have b0:=I.c 0 0 rfl rfl;have b1:=I.c 0 1 rfl rfl;have b2:=I.c 0 2 rfl rfl;have b3:=I.c 0 3 rfl rfl;have b4:=I.c 0 4 rfl rfl;have e3:=I.c 1 3 rfl rfl;rw[Nat.add_zero] at b0 b1 b2 b3 b4
   have m0:(wr.alloc (.cells #[.slice s0 x.aA.length r,.slice l x.aQ.length t,.slice m x.aJ.length u,.slice n x.over.length A,.slice o x.aW.length C] 51)).cell? ⟨wr.heap.size,0,none⟩=some (.slice s0 x.aA.length r):=by simp
   have m1:(wr.alloc (.cells #[.slice s0 x.aA.length r,.slice l x.aQ.length t,.slice m x.aJ.length u,.slice n x.over.length A,.slice o x.aW.length C] 51)).cell? ⟨wr.heap.size,1,none⟩=some (.slice l x.aQ.length t):=by simp
   have m2:(wr.alloc (.cells #[.slice s0 x.aA.length r,.slice l x.aQ.length t,.slice m x.aJ.length u,.slice n x.over.length A,.slice o x.aW.length C] 51)).cell? ⟨wr.heap.size,2,none⟩=some (.slice m x.aJ.length u):=by simp
   have m3:(wr.alloc (.cells #[.slice s0 x.aA.length r,.slice l x.aQ.length t,.slice m x.aJ.length u,.slice n x.over.length A,.slice o x.aW.length C] 51)).cell? ⟨wr.heap.size,3,none⟩=some (.slice n x.over.length A):=by simp
   have m4:(wr.alloc (.cells #[.slice s0 x.aA.length r,.slice l x.aQ.length t,.slice m x.aJ.length u,.slice n x.over.length A,.slice o x.aW.length C] 51)).cell? ⟨wr.heap.size,4,none⟩=some (.slice o x.aW.length C):=by simp
   have bL:(i:Int)<(d.aB.length:Int):=by have:=R.out; omega
   have aP:∀z:¬(fD p.aI x.aA.length h∧eC d.aH d.aC x h=h),B (d.aB.length=p.aB.length∧∀i,i<p.aB.length->yG p d i)=false:=fun z=>bE fun k=>z (k.2 i J x h HX.out HH.out);have a0:=aD aP;clear F a8 a7 b U aY V a S aU aO hx hh aP T1 I T3
   go_upto_region 6 with fail
   go_cut [7,8] (fun va vb wc=>vb=.bool (B (fD p.aI x.aA.length h))∧(fD p.aI x.aA.length h->∃s,iG h=some s∧va=dO s)∧bD w [(27,#[.int .i64 p.aA,X,.slice (some ⟨bw,ow,none⟩) p.aB.length c2,Y,.int .i64 p.aI]),(40,#[ok,f1,N,.slice (some ⟨bh,oh,none⟩) d.aB.length c3])] wc∧(wc.cell? ⟨wr.heap.size,0,none⟩=some (.slice s0 x.aA.length r)∧wc.cell? ⟨wr.heap.size,1,none⟩=some (.slice l x.aQ.length t)∧wc.cell? ⟨wr.heap.size,2,none⟩=some (.slice m x.aJ.length u)∧wc.cell? ⟨wr.heap.size,3,none⟩=some (.slice n x.over.length A)∧wc.cell? ⟨wr.heap.size,4,none⟩=some (.slice o x.aW.length C)))
   case first=>
    go_region_with (go_at_call 95; refine D.out.mono ?_; rintro e w2 ⟨v,rfl,T,g,r0,r1,r2,r3,r4⟩; have HV:=aD T; have bF:=aD g; clear T g)
    all_goals
     go_wp2_with fail
     go_meet;exact⟨rfl,HV.out,bF.out,r0,r1,r2,r3,r4⟩
   case rest=>
    obtain⟨rfl,T,g,r0,r1,r2,r3,r4⟩:=hcut;have HV:=aD T;clear T D b0 b1 b2 b3 b4 e3 m0 m1 m2 m3 m4 j0 j1 j2 j3 j4 g0 g1 g2 g3 g4;by_cases q:fD p.aI x.aA.length h
    case neg=>
     rw[bE q];have Q:=aD q;clear q;go_wp2;go_ret;exact⟨bI (a0.out fun z=>Q.out z.1).symm,g.below⟩
    rw[bQ q];obtain⟨s,hs,aX⟩:=HV.out q;obtain⟨s',aT,-,c,-⟩:=yC H.out.1 q;rw[hs] at aT
    cases aT
    have G:=D6 ok f1 N (.slice (some ⟨bh,oh,none⟩) d.aB.length c3) _ _ _ _ _ s d.aH d.aC x _ (KF.out _ g.below).1 (KF.out _ g.below).2.1 (KX.out _ g.below) H.out b8.out bA.out ⟨bJ,bH⟩ K c;have f:=Jd (mU d.aH d.aC x s) s (Ep (BZ c K H.out.1).2) (Ep c);have aG:=Jr (mU d.aH d.aC x s) s;have P:=Jf (aH:=d.aH) (aC:=d.aC) hs q K H.out.1;rw[← aX] at G f aG;have HQ:=aD q;have M:=aD G;have L:=aD P;have Z:=g.c 1 0 rfl rfl;have q1:=g.c 1 1 rfl rfl;have q2:=g.c 1 2 rfl rfl;have q3:=g.c 1 3 rfl rfl;obtain⟨tv,aV⟩:∃v,v=dO (mU d.aH d.aC x s):=⟨_,rfl⟩;rw[← aV] at f aG M;clear q hs aX G P aV c
    go_wp2_with fail
    refine M.out.mono ?_;rintro e w5 ⟨rfl,hb⟩;have T5:=g.call hb;clear hb g Z q1 q2 q3 r0 r1 r2 r3 r4;by_cases e:mU d.aH d.aC x s=s
    ·rw[bQ e] at f;have E:=aD e;clear e;go_wp2;go_roundw
     case rel=>
      exact⟨i+1,by omega,by go_num,fun j hj=>by
       by_cases ej:j=i
       ·subst ej;intro x' h' k1 k2;rw[HX.out] at k1;rw[HH.out] at k2
        cases k1
        cases k2
        exact⟨HQ.out,L.out.1 E.out⟩
       ·exact HA.out j (by omega),T5⟩
     case measure=>simp[intOf]; omega
    ·rw[bE e] at f;have E:=aD e;clear e;go_wp2;go_ret;exact⟨bI (a0.out fun z=>E.out (L.out.2 z.2)).symm,T5.below⟩
  ·go_wp2;go_ret;exact⟨bI (bQ ⟨R.out,fun j hj=>HA.out j (by omega)⟩).symm,T1.below⟩
theorem Jp {p:aK}(h:Right p) {i k:Nat}(hi:i<p.aB.length) (c:k<p.aB.length) (d:p.bar i k=some true):p.bar k i=some true:=by
 obtain⟨r,b,-,-,-,a⟩:=h.row c hi
 cases b with
 | true=>exact a
 | false=>
  exfalso;refine h.parts.2.2.2.2.2 i ⟨hi,k,c,?_⟩;exact .inl (by rw[d,a]; intro z; cases z)
theorem Bl {p:aK}{d:aF}(t:Right p) (v:d.aB.length=p.aB.length):((∀i,i<p.aB.length->yG p d i)∧¬zW p d)↔((∀i,i<d.aB.length->uE p d i)∧d.aB=(kN p.aB d).aB):=by
 constructor
 ·rintro⟨f,n⟩;refine⟨fun i hi x h c a=>⟨(f i (by omega) x h c a).1,fun k g u m o q=>?_⟩,?_⟩
  ·apply Decidable.byContradiction;intro b
   have r:k<p.aB.length:=by have:=(List.getElem?_eq_some_iff.1 m).1; omega
   rcases Nat.lt_or_ge k i with e | e
   ·exact n ⟨i,k,by omega,e,h,g,o,a,m,q,b⟩
   ·exact n ⟨k,i,r,by omega,g,h,Jp t (by omega) r o,m,a,b,q⟩
  ·unfold kN;apply List.ext_getElem?;intro j;show d.aB[j]?=(List.zipWith (eC d.aH d.aC) p.aB d.aB)[j]?;rw[List.getElem?_zipWith];by_cases s:j<p.aB.length
   ·obtain⟨x,c⟩:=eU p.aB s;obtain⟨h,a⟩:=eU d.aB (i:=j) (by omega);rw[c,a];exact congrArg some (f j s x h c a).2.symm
   ·rw[List.getElem?_eq_none (by omega:p.aB.length<=j),List.getElem?_eq_none (by omega:d.aB.length<=j)]
 ·rintro⟨f,n⟩;refine⟨fun i hi x h c a=>⟨(f i (by omega) x h c a).1,?_⟩,?_⟩
  ·have:=congrArg (fun l=>l[i]?) n;simp only[kN] at this;rw[List.getElem?_zipWith,c,a] at this;exact (Option.some.inj this).symm
  ·rintro⟨i,k,hi,r,h,g,o,a,m,q,b⟩;obtain⟨x,c⟩:=eU p.aB hi;exact b ((f i (by omega) x h c a).2 k g (by omega) m o q)
set_option maxRecDepth 100000 in
set_option maxHeartbeats 4000000 in
theorem J2 (R S T f1 N O:Value) (p:aK) (d:aF) (w:World) (Z:aZ (In w) w R S T p) (Y:bB (In w) w f1 N O d) (hs:p.Small 1048576) (P:d.Small 1048576) (hg:w.cell? ⟨1,0,none⟩=some rF) :
  Calls Tryz.prog 18 #[.agg #[.int .i64 p.aA,R,S,T,.int .i64 p.aI],.agg #[.bool d.ok,f1,N,O]] w fun e w'=>e=.returned (.bool (B (cJ p d)))∧Below w.heap.size w w':=by
 obtain⟨K,x⟩:∃c,d.ok=c:=⟨_,rfl⟩;rw[x];have C:=aD x;have M:=eB w 27 40 #[.int .i64 p.aA,R,S,T,.int .i64 p.aI] #[.bool K,f1,N,O];have J:∀W,Below w.heap.size w W->aZ (In W) W R S T p:=fun W h=>Z.keep (In.keep h).1 (In.keep h).2;have I:∀W,Below w.heap.size w W->bB (In W) W f1 N O d:=fun W h=>Y.keep (In.keep h).1 (In.keep h).2;have V:=aD J;have U:=aD I;obtain⟨a1,c1,rfl⟩:=Z.1.size;obtain⟨o1,m1,rfl⟩:=Y.1.size;have H:=ck hg M.below;have a0:=hs.1;have HD:=aD P;have a2:=P.1;have X:=P.2.1;clear x J I Z Y hg P;go_enter Tryz.func18,Tryz.ntmps18
 go_wp2_with fail
 refine (Ai _ _ _ p _ (V.out _ M.below) hs H).mono ?_;rintro e w1 ⟨rfl,l⟩;have a:=M.call l;clear l M H hs;by_cases q:Right p
 case neg=>
  rw[bE q];have Q:=aD q;clear q;go_wp2;go_ret;exact⟨bI (bE fun h=>Q.out h.1).symm,a.below⟩
 rw[bQ q];have Q:=aD q;clear q;have n:=a.c 0 0 rfl rfl;have o:=a.c 0 1 rfl rfl;have r:=a.c 0 2 rfl rfl;have s:=a.c 0 3 rfl rfl;have t:=a.c 0 4 rfl rfl;have D:=a.c 1 0 rfl rfl;have E:=a.c 1 1 rfl rfl;have F:=a.c 1 2 rfl rfl;have G:=a.c 1 3 rfl rfl;rw[Nat.add_zero] at n o r s t
 cases K with
 | false=>
  go_wp2;go_ret;exact⟨bI (bE fun h=>by have:=h.2.1; rw[C.out] at this; cases this).symm,a.below⟩
 | true=>
 by_cases y:(d.aH.length:Int)=p.aA
 case neg=>
  have k0:((d.aH.length:Int) == p.aA)=false:=by simpa using y
  have L:=aD y;clear y;go_wp2;go_ret;exact⟨bI (bE fun h=>L.out h.2.2.1).symm,a.below⟩
 have k0:((d.aH.length:Int) == p.aA)=true:=by simpa using y
 have L:=aD y;clear y
 go_wp2_with fail
 refine (J7 _ _ _ _ _ _ _ _ a1 p.aE.length c1 d.aC _ (U.out _ a.below).2.1 a0 X).mono ?_;clear n o r s t D E F G;rintro e w2 ⟨rfl,l⟩;have b:=a.call l;clear l a;have n:=b.c 0 0 rfl rfl;have o:=b.c 0 1 rfl rfl;have r:=b.c 0 2 rfl rfl;have s:=b.c 0 3 rfl rfl;have t:=b.c 0 4 rfl rfl;have D:=b.c 1 0 rfl rfl;have E:=b.c 1 1 rfl rfl;have F:=b.c 1 2 rfl rfl;have G:=b.c 1 3 rfl rfl;rw[Nat.add_zero] at n o r s t;by_cases g:Bi p.aE.length d.aC
 case neg=>
  rw[bE g];have k:=aD g;clear g;go_wp2;go_ret;exact⟨bI (bE fun h=>k.out ⟨h.2.2.2.1,h.2.2.2.2.2.1⟩).symm,b.below⟩
 rw[bQ g];have k:=aD g;clear g
 go_wp2_with fail
 refine (Jl _ _ _ _ _ _ _ p d _ (V.out _ b.below) (U.out _ b.below) Q.out L.out k.out.1 HD.out).mono ?_;clear n o r s t D E F G;rintro e w3 ⟨rfl,l⟩;have f:=b.call l;clear l b;have n:=f.c 0 0 rfl rfl;have o:=f.c 0 1 rfl rfl;have r:=f.c 0 2 rfl rfl;have s:=f.c 0 3 rfl rfl;have t:=f.c 0 4 rfl rfl;have D:=f.c 1 0 rfl rfl;have E:=f.c 1 1 rfl rfl;have F:=f.c 1 2 rfl rfl;have G:=f.c 1 3 rfl rfl;rw[Nat.add_zero] at n o r s t;by_cases z:d.aB.length=p.aB.length∧∀i,i<p.aB.length->yG p d i
 case neg=>
  rw[bE z];have v:=aD z;clear z;go_wp2;go_ret;exact⟨bI (bE fun h=>v.out ⟨h.2.2.2.2.1,((Bl Q.out h.2.2.2.2.1).2 ⟨h.2.2.2.2.2.2.1,h.2.2.2.2.2.2.2⟩).1⟩).symm,f.below⟩
 rw[bQ z];have v:=aD z;clear z
 go_wp2_with fail
 refine (J3 _ _ _ _ _ _ _ _ p d _ (V.out _ f.below) (U.out _ f.below) Q.out v.out.1).mono ?_;clear n o r s t D E F G;rintro e w4 ⟨rfl,l⟩;have T4:=f.call l;clear l f
 have u:(!(B (zW p d)))=B (cJ p d):=by
  by_cases m:zW p d
  ·rw[bQ m,bE fun h=>((Bl Q.out v.out.1).2 ⟨h.2.2.2.2.2.2.1,h.2.2.2.2.2.2.2⟩).2 m];rfl
  ·have:=(Bl Q.out v.out.1).1 ⟨v.out.2,m⟩;rw[bE m,bQ (show cJ p d from ⟨Q.out,C.out,L.out,k.out.1,v.out.1,k.out.2,this.1,this.2⟩)];rfl
 have A:=aD u;clear u;go_wp2;go_ret;exact⟨bI A.out,T4.below⟩
end Go.Proofs.YtdhinkgjiapigaaGreatDoor
