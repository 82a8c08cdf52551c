import Derived.Test.YtdhinkgjiapigaaGreatDoorBarW
namespace Go.Proofs.YtdhinkgjiapigaaGreatDoor
def kP (l r:List Int):Bool:=l.any fun s=>r.any fun t=>t == s
theorem JH {l r:List Int}{i:Decidable (Meet l r)}:@B (Meet l r) i=kP l r:=by
 have h:kP l r=true↔Meet l r:=by
  unfold kP Meet;rw[List.any_eq_true];constructor
  ·rintro⟨s,c,h⟩;rw[List.any_eq_true] at h;obtain⟨t,d,e⟩:=h
   have:t=s:=by simpa using e
   exact⟨s,c,this ▸ d⟩
  ·rintro⟨s,a,b⟩;exact⟨s,a,by rw[List.any_eq_true]; exact⟨s,b,by simp⟩⟩
 by_cases e:Meet l r
 ·rw[bQ e,h.2 e]
 ·rw[bE e]
  cases em:kP l r
  ·rfl
  ·exact absurd (h.1 em) e
def jU (p:aK) (d:aF) (way:Nat) (x:aT) (i:Nat):Bool:=match p.aB[i]?,d.aB[i]? with
 | some y,some h=>i != way&&h.state != 0&&((p.bar way i).getD false || kP x.aA y.over || kP x.over y.aA)
 | _,_=>false
def mT (d:aF) (x:aT) (s:Nat):Bool:=eA d.aH s&&(kP [(s:Int)] x.aA || kP [(s:Int)] x.over)
def oK (l:List (Int×Int)) (k:Int):Int:=l.foldl (fun a y=>if y.1=k then y.2 else a) 0
def rQ (d:aF) (x:aT) (k:Nat):Bool:=match d.aC[k]? with
 | some pt=>oK (x.aQ++x.aJ) k != 0&&oK (x.aQ++x.aJ) k != pt.1
 | none=>false
def mM (p:aK) (d:aF) (x:aT) (k:Nat):Bool:=rQ d x k&&decide (0<(gS p d k).length)
def rA (p:aK) (d:aF) (x:aT) (k:Nat):Bool:=rQ d x k&&(!decide (0<(gS p d k).length)&&eA d.aH (p.aE.getD k 0))
def nZ (f:Nat->Bool) (n:Nat):List Int:=((List.range n).filter f).map fun j:Nat=>(j:Int)
def lE (p:aK) (d:aF) (x:aT) (k:Nat):Int:=if (List.range k).any (mM p d x) then 5 else if (List.range k).any (rA p d x) then 6 else 0
def tJ (p:aK) (d:aF) (way:Nat) (x:aT) (i:Nat):Int:=if (List.range i).any (jU p d way x) then 3 else 0
def kO (p:aK) (d:aF) (way:Nat) (x:aT) (s:Nat):Int:=if (List.range p.aB.length).any (jU p d way x) then 3 else if (List.range s).any (mT d x) then 4 else 0
def xY (p:aK) (d:aF) (way:Nat) (x:aT):Int:=if kO p d way x p.aA.toNat=0 then lE p d x p.aE.length else kO p d way x p.aA.toNat
theorem pN (f:Nat->Bool) (i:Nat):(List.range (i+1)).any f=((List.range i).any f || f i):=by
 rw[List.range_succ,List.any_append]; simp
theorem DJ (f:Nat->Bool) (i:Nat):nZ f (i+1)=nZ f i++(if f i then [(i:Int)] else []):=Av f i
theorem BR {f:Nat->Bool}{i:Nat}(h:f i=true):nZ f (i+1)=nZ f i++[(i:Int)]:=by rw[DJ,if_pos h]
theorem EF {f:Nat->Bool}{i:Nat}(h:f i=false):nZ f (i+1)=nZ f i:=by rw[DJ,if_neg (by rw[h]; decide),List.append_nil]
theorem C5 (f:Nat->Bool) (i:Nat):(nZ f i).length<=i:=CW f i
theorem Gy {p d way x i}(h:jU p d way x i=true):tJ p d way x (i+1)=3:=by unfold tJ; rw[pN,h,Bool.or_true]; rfl
theorem Io {p d way x i}(h:jU p d way x i=false):tJ p d way x (i+1)=tJ p d way x i:=by unfold tJ; rw[pN,h,Bool.or_false]
theorem Gr {p d way x}:kO p d way x 0=tJ p d way x p.aB.length:=by unfold kO tJ; simp
theorem Ip {p d way x s}(h:mT d x s=false):kO p d way x (s+1)=kO p d way x s:=by unfold kO; rw[pN,h,Bool.or_false]
theorem Gq {p d way x s}(h:mT d x s=true) (a:kO p d way x s=0):kO p d way x (s+1)=4:=by
 unfold kO at *;rw[pN,h,Bool.or_true];split at a
 ·omega
 ·rename_i e; rw[if_neg e]; rfl
theorem Gz {p d way x s}(h:mT d x s=true) (a:kO p d way x s≠0):kO p d way x (s+1)=kO p d way x s:=by
 unfold kO at *;rw[pN,h,Bool.or_true];split at a
 ·rename_i e; rw[if_pos e,if_pos e]
 ·rename_i e
  rw[if_neg e,if_neg e];split at a
  ·rename_i b; rw[if_pos rfl,if_pos b]
  ·omega
theorem GZ {p d x k}(h:mM p d x k=true):lE p d x (k+1)=5:=by unfold lE; rw[pN,h,Bool.or_true]; rfl
theorem Af {p d x k}(h:mM p d x k=false) (a:rA p d x k=false):lE p d x (k+1)=lE p d x k:=by unfold lE; rw[pN,pN,h,a,Bool.or_false,Bool.or_false]
theorem Fp {p d x k}(h:mM p d x k=false) (b:rA p d x k=true) (a:lE p d x k=0):lE p d x (k+1)=6:=by
 unfold lE at *;rw[pN,pN,h,b,Bool.or_false,Bool.or_true];split at a
 ·omega
 ·rename_i e; rw[if_neg e]; rfl
theorem Fi {p d x k}(h:mM p d x k=false) (c:rA p d x k=true) (a:lE p d x k≠0):lE p d x (k+1)=lE p d x k:=by
 unfold lE at *;rw[pN,pN,h,c,Bool.or_false,Bool.or_true];split at a
 ·rename_i e; rw[if_pos e,if_pos e]
 ·rename_i e
  rw[if_neg e,if_neg e];split at a
  ·rename_i b; rw[if_pos rfl,if_pos b]
  ·omega
section
open Go.Deep Go.RowKit
theorem JM (w:World) (f g h i j:TypeId) (a b c d e:Array Value):bD w [(f,a),(g,b),(h,c),(i,d),(j,e)] (((((w.alloc (.cells a f)).alloc (.cells b g)).alloc (.cells c h)).alloc (.cells d i)).alloc (.cells e j)):=
 ((iE w f g h a b c).snoc (by simp) i d).snoc (by simp) j e
def St (b:Nat) (Wp W:World) (k:Nat) (u:Nat->Value) (v:Value) (l:List Int):Prop:=
 But (fun c=>c≠b) Wp W∧W.rowIs b 63 3 (fun i=>if i=k then v else u i)∧∃m,W.ownsRow Wp.heap.size 3 1 v m (dD l)
theorem St.call {b:Nat}{c W W':World}{k:Nat}{u:Nat->Value}{v:Value}{l:List Int}(h:St b c W k u v l) (a:Below W.heap.size W W'):St b c W' k u v l:=by
 obtain⟨d,e,m,f⟩:=h;exact⟨d.call a,dP e a,m,gD (K:=fun _=>True) f (But.aG a) fun _ _=>trivial⟩
theorem St.snoc {b:Nat}{d W q:World}{k:Nat}{u:Nat->Value}{v v':Value}{l:List Int}{x:Int}{m t:Nat}(h:St b d W k u v l) (y:b<d.heap.size) (p:W.ownsRow d.heap.size 3 1 v m (dD l)) (o:(W.alloc (.cells #[.int .i64 x] 3)).grownBy q v.ownBlock) (a:q.ownsRow d.heap.size 3 1 v' t (dD l++[.int .i64 x])) :
  St b d (q.setCell ⟨b,k,none⟩ v') k u v' (l++[x]):=by
 obtain⟨f,w,-⟩:=h
 have j:But (fun c=>c<d.heap.size) W q:=by
  refine (But.aG (bC W _)).trans ⟨o.os,o.tape,o.output,o.size,fun c n s=>o.block c n fun e=>?_⟩;have:=(gJ p e.symm).1;omega
 refine⟨?_,?_,t,?_⟩
 ·refine But.setCell ⟨j.os.trans f.os,j.tape.trans f.tape,j.output.trans f.output,Nat.le_trans f.size j.size,fun c n s=>?_⟩ (fun z=>z rfl) _;exact (j.block c (Nat.lt_of_lt_of_le n f.size) n).trans (f.block c n s)
 ·refine ((j.row w y).set k v').congr fun i hi=>?_;by_cases e:i=k
  ·rw[if_pos e,if_pos e]
  ·rw[if_neg e,if_neg e,if_neg e]
 ·rw[xD]
  exact gD (K:=fun c=>c≠b) a ((But.refl _ _).setCell (fun z=>z rfl) _) fun g r=>by have:=(gJ a r).1; omega
theorem St.grown {b:Nat}{f W g:World}{k:Nat}{u:Nat->Value}{v:Value}{l:List Int}{x:Int}{m:Nat}(h:St b f W k u v l) (n:b<f.heap.size) (d:W.ownsRow f.heap.size 3 1 v m (dD l)) (a:(W.alloc (.cells #[.int .i64 x] 3)).grownBy g v.ownBlock):g.rowIs b 63 3 (fun i=>if i=k then v else u i):=by
 have j:But (fun c=>c<f.heap.size) W g:=by
  refine (But.aG (bC W _)).trans ⟨a.os,a.tape,a.output,a.size,fun c o p=>a.block c o fun e=>?_⟩;have:=(gJ d e.symm).1;omega
 exact j.row h.2.1 n
theorem St.ready {b:Nat}{d W:World}{k:Nat}{u:Nat->Value}{v:Value}{l:List Int}(h:St b d W k u v l) (p:l.length<=1048576) (x:Int) :
  ∃m a c,v=.slice a m c∧W.ownsRow d.heap.size 3 1 v m (dD l)∧(W.alloc (.cells #[.int .i64 x] 3)).ownsRow d.heap.size 3 1 v m (dD l) ∧
   (1=0∨∃A,(some (⟨W.heap.size,0,none⟩:Addr))=some A∧∀j u,([.int .i64 x]:List Value)[j]?=some u->(W.alloc (.cells #[.int .i64 x] 3)).cell? (A.add j)=some u)∧(∀u∈([.int .i64 x]:List Value),u.oneCell'=true)∧m+1<=maxLen∧(m+1)*8<=140737488355328∧d.heap.size<=(W.alloc (.cells #[.int .i64 x] 3)).heap.size:=by
 obtain⟨i,-,m,e⟩:=h;obtain⟨a,c,o⟩:=zag e
 have q:m<=1048576:=by have:=e.1; rw[tP] at this; omega
 refine⟨m,a,c,o,e,gD (K:=fun _=>True) e (But.aG (bC _ _)) fun _ _=>trivial,.inr ⟨_,rfl,fun j u f=>?_⟩,fun u g=>?_,by unfold maxLen; omega,by omega,Nat.le_trans i.size (bC W _).size⟩
 ·rw[mJ,Nat.zero_add];have n:j<1:=(List.getElem?_eq_some_iff.1 f).1
  obtain rfl:j=0:=by omega
  rw[(dH W 3 #[.int .i64 x]).cell (by simp)];exact f
 ·simp at g;subst g;rfl
end
section
open Classical Go.Deep Go.RowKit
theorem yX (u v:Value) (l r:List Int) (w:World) (c:Ints (In w) w u l) (d:Ints (In w) w v r) (a:l.length<=1048576) (b:r.length<=1048576) :
  Calls Tryz.prog 77 #[u,v] w fun e w'=>e=.returned (.bool (kP l r))∧Below w.heap.size w w':=by
 refine (tH u v l r w c d a b).mono ?_;rintro e w' ⟨rfl,rfl⟩;exact⟨by rw[JH],Below.refl _ _⟩
theorem bD.dR {w:World}{a:List (TypeId×Array Value)}{W W':World}{b:Nat}(h:bD w a W) (d:But (fun c=>c≠b) W W') {j i:Nat}{t:TypeId}{c:Array Value}{v:Value}(e:a[j]?=some (t,c)) (hi:c[i]?=some v) (f:w.heap.size+j≠b):W'.cell? ⟨w.heap.size+j,i,Option.none⟩=some v:=
 d.cell (h.cell e hi) f
theorem Im {P:Nat->Prop}{w:World}{v:Value}{l:List (List Bool)}{i:Nat}{r:List Bool}(h:kE P w v l) (hi:l[i]?=some r):∃b off c v0,v=.slice (some ⟨b,off,none⟩) l.length c∧P b∧w.cell? ⟨b,off+i,none⟩=some v0∧Bools P w v0 r:=by
 have j:=(List.getElem?_eq_some_iff.1 hi).1;obtain⟨a,c,rfl,k | ⟨b,off,rfl,f,g⟩⟩:=h
 ·omega
 ·obtain⟨v0,d,e⟩:=g i j r hi;exact⟨b,off,c,v0,rfl,f,e,d⟩
theorem Cu {P:Nat->Prop}{w:World}{v:Value}{l:List aM}{i:Nat}{x:aM}(h:dF P w v l) (hi:l[i]?=some x):∃b off c,v=.slice (some ⟨b,off,none⟩) l.length c∧P b∧w.cell? ⟨b,off+i*5,none⟩=some (.int .i64 x.state):=by
 have g:=(List.getElem?_eq_some_iff.1 hi).1;obtain⟨a,c,rfl,j | ⟨b,off,rfl,e,f⟩⟩:=h
 ·omega
 ·obtain⟨v2,-,d,-⟩:=f i g x hi;exact⟨b,off,c,rfl,e,d⟩
theorem DV {P:Nat->Prop}{w:World}{v:Value}{l:List (Int×Int)}{i:Nat}{x:Int×Int}(h:Lies P w v l) (hi:l[i]?=some x):∃b off c,v=.slice (some ⟨b,off,none⟩) l.length c∧P b∧w.cell? ⟨b,off+i*2,none⟩=some (.int .i64 x.1)∧w.cell? ⟨b,off+i*2+1,none⟩=some (.int .i64 x.2):=by
 have f:=(List.getElem?_eq_some_iff.1 hi).1;obtain⟨a,c,rfl,g | ⟨b,off,rfl,d,e⟩⟩:=h
 ·omega
 ·exact⟨b,off,c,rfl,d,e i f x hi⟩
theorem BO {P:Nat->Prop}{w:World}{v:Value}{l:List Int}{i:Nat}{x:Int}(h:Ints P w v l) (hi:l[i]?=some x):∃b off c,v=.slice (some ⟨b,off,none⟩) l.length c∧P b∧w.cell? ⟨b,off+i,none⟩=some (.int .i64 x):=by
 have f:=(List.getElem?_eq_some_iff.1 hi).1;obtain⟨a,c,rfl,g | ⟨b,off,rfl,d,e⟩⟩:=h
 ·omega
 ·exact⟨b,off,c,rfl,d,e i f x hi⟩
theorem IW (l:List (Int×Int)) (y:Int×Int) (k:Int):oK (l++[y]) k=if y.1=k then y.2 else oK l k:=by
 unfold oK;rw[List.foldl_append];rfl
theorem Gc {p:aK}{d:aF}{i j:Nat}{x y:aT}{h:aM}{b:Bool}(e:p.aB[j]?=some y) (c:d.aB[j]?=some h) (a:p.bar i j=some b):jU p d i x j=(j != i&&h.state != 0&&(b || kP x.aA y.over || kP x.over y.aA)):=by
 unfold jU; rw[e,c,a]; rfl
theorem St.cell {b:Nat}{a W:World}{k:Nat}{u:Nat->Value}{v:Value}{l:List Int}(h:St b a W k u v l) (j:Nat) (c:j<3):W.cell? ⟨b,j,none⟩=some (if j=k then v else u j):=h.2.1.cell c
theorem St.next {b:Nat}{d W:World}{k:Nat}{u:Nat->Value}{v:Value}{l:List Int}(h:St b d W k u v l) (a:Nat) (c:Nat->Value) (v':Value) (f:v'=.slice none 0 0) (e:∀j,(if j=a then v' else c j)=if j=k then v else u j):St b W W a c v' []:=by
 subst f;exact⟨But.refl _ _,h.2.1.congr fun j _=>(e j).symm,0,World.ownsRow_nil _ _ _ _⟩
theorem xO {P:Nat->Prop}{w:World}{v:Value}{l:List Bool}{i:Nat}{x:Bool}(h:Bools P w v l) (hi:l[i]?=some x):∃b off c,v=.slice (some ⟨b,off,none⟩) l.length c∧P b∧w.cell? ⟨b,off+i,none⟩=some (.bool x):=by
 have f:=(List.getElem?_eq_some_iff.1 hi).1;obtain⟨a,c,rfl,g | ⟨b,off,rfl,d,e⟩⟩:=h
 ·omega
 ·exact⟨b,off,c,rfl,d,e i f x hi⟩
set_option maxRecDepth 100000 in
set_option maxHeartbeats 8000000 in
theorem G6 (p1 p2 p3 f1 f2 f3:Value) (p:aK) (d:aF) (i:Nat) (x:aT) (w:World) (hp:aZ (In w) w p1 p2 p3 p) (hf:bB (In w) w f1 f2 f3 d) (hs:p.Small 1048576) (hd:d.Small 1048576) (hR:cJ p d) (hx:p.aB[i]?=some x) :
  Calls Tryz.prog 119 #[.agg #[.int .i64 p.aA,p1,p2,p3,.int .i64 p.aI],.agg #[.bool d.ok,f1,f2,f3],.int .i64 (i:Int)] w fun e w'=>(∃g1 n1 k1 g2 n2 k2 g3 n3 k3,e=.returned (.tuple #[.agg #[.slice g1 n1 k1,.slice g2 n2 k2,.slice g3 n3 k3],.int .i64 (xY p d i x)]))∧Below w.heap.size w w':=by
 have HP:=aD hp;have HF:=aD hf;have HX:=aD hx;have HR:=aD hR;have HS:=aD hs;have HD:=aD hd;have dG:i<p.aB.length:=(List.getElem?_eq_some_iff.1 hx).1;have eM:p.aB.length<=100:=hR.1.parts.1.2.2.1;have fH:p.aE.length<=40:=hR.1.parts.1.2.1;have fI:p.aA<=60:=hR.1.parts.1.1.2;have fO:1<=p.aA:=hR.1.parts.1.1.1;obtain⟨a1,c1,rfl⟩:=hp.1.size;obtain⟨a2,c2,rfl,bQ⟩:=hp.2.1;obtain h0 | ⟨bw,ow,rfl,eF,bQ⟩:=bQ
 ·omega
 obtain⟨a3,c3,rfl⟩:=hp.2.2.size;obtain⟨o1,m1,rfl⟩:=hf.1.size;obtain⟨o2,m2,rfl⟩:=hf.2.1.size;obtain⟨o3,m3,rfl⟩:=hf.2.2.size;obtain⟨v0,v1,v2,v3,v4,b8,g0,g1,g2,g3,g4⟩:=bQ i dG x hx;have c5:=aD b8;obtain⟨s0,t0,rfl⟩:=b8.1.size;obtain⟨s1,t1,rfl⟩:=b8.2.1.size;obtain⟨s2,t2,rfl⟩:=b8.2.2.1.size;obtain⟨s3,t3,rfl⟩:=b8.2.2.2.1.size;obtain⟨s4,t4,rfl⟩:=b8.2.2.2.2.size;have dZ:=aD bQ;have T5:=JM w 27 40 63 63 51 #[.int .i64 p.aA,.slice a1 p.aE.length c1,.slice (some ⟨bw,ow,none⟩) p.aB.length c2,.slice a3 p.aO.length c3,.int .i64 p.aI] #[.bool d.ok,.slice o1 d.aH.length m1,.slice o2 d.aC.length m2,.slice o3 d.aB.length m3] #[.slice none 0 0,.slice none 0 0,.slice none 0 0] #[.slice none 0 0,.slice none 0 0,.slice none 0 0] #[.slice s0 x.aA.length t0,.slice s1 x.aQ.length t1,.slice s2 x.aJ.length t2,.slice s3 x.over.length t3,.slice s4 x.aW.length t4];have T4:=(iE w 27 40 63 #[.int .i64 p.aA,.slice a1 p.aE.length c1,.slice (some ⟨bw,ow,none⟩) p.aB.length c2,.slice a3 p.aO.length c3,.int .i64 p.aI] #[.bool d.ok,.slice o1 d.aH.length m1,.slice o2 d.aC.length m2,.slice o3 d.aB.length m3] #[.slice none 0 0,.slice none 0 0,.slice none 0 0]).snoc (by simp) 63 #[.slice none 0 0,.slice none 0 0,.slice none 0 0];have k0:=bP g0 T4.below;have k1:=bP g1 T4.below;have k2:=bP g2 T4.below;have k3:=bP g3 T4.below;have k4:=bP g4 T4.below
 clear T4 g0 g1 g2 g3 g4
 have fA:(i:Int)<(p.aB.length:Int):=by omega
 have fL:bw<w.heap.size:=eF;clear hp hf hs hd hR hx bQ b8;go_enter Tryz.func119,Tryz.ntmps119;go_wp2;clear k0 k1 k2 k3 k4;generalize eN:(((((w.alloc _).alloc _).alloc _).alloc _).alloc _)=w5 at T5 ⊢;have n:=aD T5;have dV:w.heap.size+1+1+1<w5.heap.size:=T5.lt (j:=3) rfl;have M:Hid (w.heap.size+1+1+1<w5.heap.size):=dV
 have cY:St (w.heap.size+1+1+1) w5 w5 0 (fun _=>.slice none 0 0) (.slice none 0 0) []:=⟨But.refl _ _,(T5.row 3 _ _ rfl).congr fun j hj=>by
  rw[ite_self];rcases j with _ | _ | _ | j
  ·rfl
  ·rfl
  ·rfl
  ·simp at hj; omega,0,World.ownsRow_nil _ _ _ _⟩
 have dH:∀W,But (fun c=>c≠w.heap.size+1+1+1) w5 W->Below w.heap.size w W:=fun W h=>n.out.below.trans (h.below n.out.below.size fun c hc=>by omega);have KB:=aD dH;clear dH T5 eN dV
 go_loopw [9,28] (fun cd z wr=>∃(j:Nat) (v:Value),j<=p.aB.length∧z=.int .i64 j∧cd=.int .i64 (tJ p d i x j)∧St (w.heap.size+1+1+1) w5 wr 0 (fun _=>.slice none 0 0) v (nZ (jU p d i x) j)) (fun _ z _=>p.aB.length-(intOf z).toNat)
 case atStart=>exact⟨0,_,Nat.zero_le _,rfl,by unfold tJ; simp,cY⟩
 case round=>
  obtain⟨j,v,hj,rfl,rfl,Z⟩:=hrel;rename World=>wA;have l:=aD Z;clear Z cY;by_cases T:j<p.aB.length
  ·obtain⟨y,hy⟩:=bG p.aB (aD rfl) T;obtain⟨h,hh⟩:=bG d.aB (aD HR.out.2.2.2.2.1) T;obtain⟨r,bb,hr,eK,hrb,cE⟩:=HR.out.1.row dG T;have I:=KB.out _ l.out.1;have KP:=HP.out.keep (Q:=In wA) (In.keep I).1 (In.keep I).2;have KF:=HF.out.keep (Q:=In wA) (In.keep I).1 (In.keep I).2;have KX:=c5.out.keep (Q:=In wA) (In.keep I).1 (In.keep I).2;obtain⟨b3,fQ,fJ,vr,e3,-,gr,dC⟩:=Im KP.2.2 hr;obtain⟨br,fR,cr,rfl,-,gb⟩:=xO dC hrb;obtain⟨bh,oh,ch,e4,-,gh⟩:=Cu KF.2.2 hh
   cases e3
   cases e4
   obtain⟨u0,u1,u2,u3,u4,cA,q0,q1,q2,q3,q4⟩:=dZ.out j T y hy;have KY:=cA.keep (Q:=In wA) (In.keep I).1 (In.keep I).2;obtain⟨y0,z0,rfl⟩:=cA.1.size;obtain⟨y3,z3,rfl⟩:=cA.2.2.2.1.size;have dW:=bP q0 I;have dX:=bP q3 I;have P2:wA.cell? ⟨w.heap.size,2,none⟩=_:=n.out.dR l.out.1 (j:=0) (i:=2) rfl rfl (by omega);have P3:wA.cell? ⟨w.heap.size,3,none⟩=_:=n.out.dR l.out.1 (j:=0) (i:=3) rfl rfl (by omega);have F3:wA.cell? ⟨w.heap.size+1,3,none⟩=_:=n.out.dR l.out.1 (j:=1) (i:=3) rfl rfl (by omega);have W0:wA.cell? ⟨w.heap.size+1+1+1+1,0,none⟩=_:=n.out.dR l.out.1 (j:=4) (i:=0) rfl rfl (by omega);have W3:wA.cell? ⟨w.heap.size+1+1+1+1,3,none⟩=_:=n.out.dR l.out.1 (j:=4) (i:=3) rfl rfl (by omega);have hwb:=Gc (x:=x) hy hh cE;have aS:=aD hwb;have cR:=HS.out.2.2.1 y (List.mem_of_getElem? hy);have u:=HS.out.2.2.1 x (List.mem_of_getElem? HX.out)
   have dE:∀G:Ext wA,Calls Tryz.prog 77 #[.slice s0 x.aA.length t0,.slice y3 y.over.length z3] G.w fun e w'=>e=.returned (.bool (kP x.aA y.over))∧Below G.w.heap.size G.w w':=fun G=>
    yX _ _ _ _ G.w (KX.1.keep (In.keep G.below).1 (In.keep G.below).2) (KY.2.2.2.1.keep (In.keep G.below).1 (In.keep G.below).2) u.1 cR.2.2.2.1
   have dF:∀G:Ext wA,Calls Tryz.prog 77 #[.slice s3 x.over.length t3,.slice y0 y.aA.length z0] G.w fun e w'=>e=.returned (.bool (kP x.over y.aA))∧Below G.w.heap.size G.w w':=fun G=>
    yX _ _ _ _ G.w (KX.2.2.2.1.keep (In.keep G.below).1 (In.keep G.below).2) (KY.1.keep (In.keep G.below).1 (In.keep G.below).2) u.2.2.2.1 cR.1
   have bA:=aD dE;have bD:=aD dF;obtain⟨mA,bS⟩:∃c,kP x.aA y.over=c:=⟨_,rfl⟩;obtain⟨mB,dK⟩:∃c,kP x.over y.aA=c:=⟨_,rfl⟩;rw[bS] at bA aS;rw[dK] at bD aS;have dN:=Ext.any wA;have eU:=Ext.cell P2;have eV:=Ext.cell P3;have eT:=Ext.cell F3;have eW:=Ext.cell W0;have eX:=Ext.cell W3;have f8:=Ext.cell dW;have f9:=Ext.cell dX;have f6:=Ext.cell gr;have f0:=Ext.cell gb;have f4:=Ext.cell gh
   have dJ:(j:Int)<(p.aB.length:Int):=by omega
   have fC:(j:Int)<(d.aB.length:Int):=by have:=HR.out.2.2.2.2.1; omega
   have fB:(i:Int)<(p.aO.length:Int):=by have:=(List.getElem?_eq_some_iff.1 hr).1; omega
   have fE:(j:Int)<(r.length:Int):=by omega
   clear dE dF hy hh hr eK hrb cE KP KF KX KY cA q0 q1 q2 q3 q4 hwb cR u bS dK dC P2 P3 F3 W0 W3 dW dX gr gb gh
   go_upto_region 7 with fail
   go_cut [74] (fun c wx=>c=.bool (jU p d i x j)∧Below wA.heap.size wA wx)
   case first=>
    by_cases e1:j=i
    ·subst e1;have E1:=aD (show jU p d j x j=false by rw[aS.out]; simp)
     have e9:((j:Int) != (j:Int))=false:=by simp
     refine gQ (by kernel_rfl) (by kernel_rfl) ?_
     repeat (go_big_quiet_step ((go_at_call 77; first | with_reducible exact eO (bA.out _) | with_reducible exact eO (bD.out _))))
     refine wpQuiet_nil ?_;rintro _ ⟨G,rfl⟩;go_wp2;go_meet
     case rel=>
      exact⟨congrArg Value.bool E1.out.symm,G.below⟩
    have e9:((j:Int) != (i:Int))=true:=by simp; omega
    have cK:(j != i)=true:=by simp[e1]
    by_cases e2:h.state=0
    ·have E1:=aD (show jU p d i x j=false by rw[aS.out,e2]; simp)
     have cZ:(h.state != 0)=false:=by simp[e2]
     clear e2 e1 cK;refine gQ (by kernel_rfl) (by kernel_rfl) ?_
     repeat (go_big_quiet_step ((go_at_call 77; first | with_reducible exact eO (bA.out _) | with_reducible exact eO (bD.out _))))
     refine wpQuiet_nil ?_;rintro _ ⟨G,rfl⟩;go_wp2;go_meet
     case rel=>
      exact⟨congrArg Value.bool E1.out.symm,G.below⟩
    have cZ:(h.state != 0)=true:=by simp[e2]
    have bI:=aD (show jU p d i x j=(bb || mA || mB) by rw[aS.out,cK,cZ]; rfl);clear e1 cK e2 aS
    cases bb
    ·cases mA
     ·have E1:Hid (jU p d i x j=mB):=bI.out;clear bI;refine gQ (by kernel_rfl) (by kernel_rfl) ?_
      repeat (go_big_quiet_step ((go_at_call 77; first | with_reducible exact eO (bA.out _) | with_reducible exact eO (bD.out _))))
      refine wpQuiet_nil ?_;rintro _ ⟨G,rfl⟩;go_wp2;go_meet
      case rel=>
       exact⟨congrArg Value.bool E1.out.symm,G.below⟩
     ·have E1:Hid (jU p d i x j=true):=bI.out;clear bI;refine gQ (by kernel_rfl) (by kernel_rfl) ?_
      repeat (go_big_quiet_step ((go_at_call 77; first | with_reducible exact eO (bA.out _) | with_reducible exact eO (bD.out _))))
      refine wpQuiet_nil ?_;rintro _ ⟨G,rfl⟩;go_wp2;go_meet
      case rel=>
       exact⟨congrArg Value.bool E1.out.symm,G.below⟩
    ·have E1:Hid (jU p d i x j=true):=bI.out;clear bI;refine gQ (by kernel_rfl) (by kernel_rfl) ?_
     repeat (go_big_quiet_step ((go_at_call 77; first | with_reducible exact eO (bA.out _) | with_reducible exact eO (bD.out _))))
     refine wpQuiet_nil ?_;rintro _ ⟨G,rfl⟩;go_wp2;go_meet
     case rel=>
      exact⟨congrArg Value.bool E1.out.symm,G.below⟩
   case rest=>
    obtain⟨rfl,bM⟩:=hcut;have O:=aD (l.out.call bM);clear l bM eU eV eT eW eX f8 f9 f6 f0 f4;have a0:Hid ((nZ (jU p d i x) j).length<=1048576):=Nat.le_trans (C5 _ _) (by omega);obtain⟨wb,hwb⟩:∃c,jU p d i x j=c:=⟨_,rfl⟩;have P:=aD hwb;rw[hwb];clear hwb aS
    cases wb
    ·go_wp2;go_roundw
     case rel=>exact⟨j+1,v,by omega,by go_num,by rw[Io P.out],by rw[EF P.out]; exact O.out⟩
     case measure=>simp[intOf]; omega
    ·
     obtain⟨m,av,cv,rfl,X,E,F,D,U,V,Y⟩:=St.ready O.out a0.out (j:Int);have N:=aD X;have H:=aD E;have S:=aD F;have R:=aD D;have aP:=aD U;have aR:=aD V;have aV:=aD Y;obtain⟨xs,u⟩:∃xs,xs=dD (nZ (jU p d i x) j):=⟨_,rfl⟩;have aU:=aD u;rw[← u] at H
     have c0:wc.cell? ⟨w.heap.size+1+1+1,0,none⟩=some (.slice av m cv):=by have:=O.out.cell 0 (by omega); rw[if_pos rfl] at this; exact this
     clear X E F D U V Y u
     go_wp2_with (at_builtin; refine iN rfl _ _ 23 rfl w5.heap.size 3 (.int .i64 0) 1 8 Tryz.underlying23 Tryz.dA rfl (by decide) _ m xs rfl H.out (some ⟨wc.heap.size,0,none⟩) 1 1 [.int .i64 (j:Int)] rfl rfl S.out R.out aP.out aR.out aV.out ?_)
     clear c0;intro u5 w6 f A;obtain⟨a6,c6,rfl⟩:=zag f
     have B:w6.ownsRow w5.heap.size 3 1 (.slice a6 (m+1) c6) (m+1) (dD (nZ (jU p d i x) j)++[.int .i64 (j:Int)]):=by rw[← aU.out]; exact f
     have C:=O.out.grown M.out N.out A
     have r0:w6.cell? ⟨w.heap.size+1+1+1,0,none⟩=some (.slice av m cv):=by have:=C.cell (i:=0) (by omega); rw[if_pos rfl] at this; exact this
     have r1:w6.frozen? ⟨w.heap.size+1+1+1,0,none⟩=false:=C.frozen 0;have SN:=aD (O.out.snoc M.out N.out A B);clear f B A C H S R;go_wp2;go_roundw
     case rel=>exact⟨j+1,_,by omega,by go_num,by rw[Gy P.out],by rw[BR P.out]; exact SN.out⟩
     case measure=>simp[intOf]; omega
  ·have eG:j=p.aB.length:=by omega
   subst eG;obtain⟨a8,aM⟩:=l.out.2.2;obtain⟨a5,a7,rfl⟩:=zag aM;clear aM
   have cC:=aD (l.out.next 1 (fun k=>if k=0 then (.slice a5 a8 a7) else .slice none 0 0) (.slice none 0 0) rfl fun k=>by
    by_cases e:k=0
    ·subst e; rfl
    ·rw[if_neg e]; split <;> rfl)
   have cF:=aD l.out.1;have M:Hid (w.heap.size+1+1+1<wA.heap.size):=Nat.lt_of_lt_of_le M.out l.out.1.size;clear T hj l;have P0:wA.cell? ⟨w.heap.size,0,none⟩=_:=n.out.dR cF.out (j:=0) (i:=0) rfl rfl (by omega);go_wp2;clear P0
   go_loopw [9,12] (fun cd z wr=>∃(s:Nat) (v2:Value),(s:Int)<=p.aA∧z=.int .i64 s∧cd=.int .i64 (kO p d i x s)∧St (w.heap.size+1+1+1) wA wr 1 (fun k=>if k=0 then (.slice a5 a8 a7) else .slice none 0 0) v2 (nZ (mT d x) s)) (fun _ z _=>p.aA.toNat-(intOf z).toNat)
   case atStart=>exact⟨0,_,by omega,rfl,by rw[Gr],cC.out⟩
   case round=>
    obtain⟨s,v2,eL,rfl,rfl,Z⟩:=hrel;rename World=>wB;have l:=aD Z;have a9:=aD (cF.out.trans Z.1);clear Z cC;have P0:wB.cell? ⟨w.heap.size,0,none⟩=_:=n.out.dR a9.out (j:=0) (i:=0) rfl rfl (by omega);have F1:wB.cell? ⟨w.heap.size+1,1,none⟩=_:=n.out.dR a9.out (j:=1) (i:=1) rfl rfl (by omega);have W0:wB.cell? ⟨w.heap.size+1+1+1+1,0,none⟩=_:=n.out.dR a9.out (j:=4) (i:=0) rfl rfl (by omega);have W3:wB.cell? ⟨w.heap.size+1+1+1+1,3,none⟩=_:=n.out.dR a9.out (j:=4) (i:=3) rfl rfl (by omega);by_cases T:(s:Int)<p.aA
    ·obtain⟨o,ho⟩:=bG d.aH (aD rfl) (show s<d.aH.length by have:=HR.out.2.2.1; omega);have I:=KB.out _ a9.out;have KF:=HF.out.keep (Q:=In wB) (In.keep I).1 (In.keep I).2;have KX:=aD (c5.out.keep (Q:=In wB) (In.keep I).1 (In.keep I).2);obtain⟨bo,oo,co,e4,-,gh⟩:=xO KF.1 ho
     cases e4
     have dP:mT d x s=(o&&(kP [(s:Int)] x.aA || kP [(s:Int)] x.over)):=by unfold mT eA; rw[show ((s:Int)).toNat=s by simp,ho]
     have bJ:=aD dP;have u:=HS.out.2.2.1 x (List.mem_of_getElem? HX.out)
     have fF:(s:Int)<(d.aH.length:Int):=by have:=HR.out.2.2.1; omega
     have one:∀W:World,Ints (In (W.alloc (.cells #[.int .i64 (s:Int)] 3))) (W.alloc (.cells #[.int .i64 (s:Int)] 3)) (.slice (some ⟨W.heap.size,0,none⟩) 1 1) [(s:Int)]:=fun W=>⟨_,1,rfl,.inr ⟨W.heap.size,0,rfl,by simp[In],fun k hk z hz=>by
      obtain rfl:k=0:=by simp at hk; omega
      simp at hz;subst hz
      simp⟩⟩
     have cB:=aD one;clear dP one ho KF
     go_upto_region 14 with fail
     go_cut [106] (fun c wx=>c=.bool (mT d x s)∧Below wB.heap.size wB wx)
     case first=>
      cases o
      ·go_wp2;go_meet
       case rel=>exact⟨congrArg Value.bool (by rw[bJ.out]; rfl),Below.refl _ _⟩
      ·have e7:(wB.alloc (.cells #[.int .i64 (s:Int)] 3)).cell? ⟨w.heap.size+1+1+1+1,0,none⟩=_:=bP W0 (bC wB (.cells #[.int .i64 (s:Int)] 3))
       go_wp2_with fail
       refine (yX _ _ _ _ _ (cB.out _) (KX.out.1.keep (In.keep (bC _ _)).1 (In.keep (bC _ _)).2) (by simp) u.1).mono ?_;rintro e w2 ⟨rfl,d9⟩;obtain⟨mA,bS⟩:∃c,kP [(s:Int)] x.aA=c:=⟨_,rfl⟩;rw[bS] at bJ ⊢;have B2:=aD ((bC wB (.cells #[.int .i64 (s:Int)] 3)).trans (d9.mono (bC wB (.cells #[.int .i64 (s:Int)] 3)).size));have W3:w2.cell? ⟨w.heap.size+1+1+1+1,3,none⟩=_:=bP W3 B2.out;clear W0 e7 P0 F1 gh d9 bS
       cases mA
       ·have e8:(w2.alloc (.cells #[.int .i64 (s:Int)] 3)).cell? ⟨w.heap.size+1+1+1+1,3,none⟩=_:=bP W3 (bC w2 (.cells #[.int .i64 (s:Int)] 3))
        go_wp2_with fail
        refine (yX _ _ _ _ _ (cB.out _) ((KX.out.2.2.2.1.keep (In.keep B2.out).1 (In.keep B2.out).2).keep (In.keep (bC _ _)).1 (In.keep (bC _ _)).2) (by simp) u.2.2.2.1).mono ?_;rintro e w3 ⟨rfl,dB⟩;have B3:=aD (B2.out.trans (((bC w2 (.cells #[.int .i64 (s:Int)] 3)).trans (dB.mono (bC w2 (.cells #[.int .i64 (s:Int)] 3)).size)).mono B2.out.size));clear W3 e8 dB;go_wp2;go_meet
        case rel=>exact⟨congrArg Value.bool (by rw[bJ.out]; rfl),B3.out⟩
       ·go_wp2;go_meet
        case rel=>exact⟨congrArg Value.bool (by rw[bJ.out]; rfl),B2.out⟩
     case rest=>
      obtain⟨rfl,bM⟩:=hcut;have O:=aD (l.out.call bM);clear l bM P0 F1 W0 W3 gh a9;have a0:Hid ((nZ (mT d x) s).length<=1048576):=Nat.le_trans (C5 _ _) (by omega);obtain⟨wb,hwb⟩:∃c,mT d x s=c:=⟨_,rfl⟩;have P:=aD hwb;rw[hwb];clear hwb bJ
      cases wb
      ·go_wp2;go_roundw
       case rel=>exact⟨s+1,v2,by omega,by go_num,by rw[Ip P.out],by rw[EF P.out]; exact O.out⟩
       case measure=>simp[intOf]; omega
      ·
       obtain⟨m,av,cv,rfl,X,E,F,D,U,V,Y⟩:=St.ready O.out a0.out (s:Int);have N:=aD X;have H:=aD E;have S:=aD F;have R:=aD D;have aP:=aD U;have aR:=aD V;have aV:=aD Y;obtain⟨xs,u⟩:∃xs,xs=dD (nZ (mT d x) s):=⟨_,rfl⟩;have aU:=aD u;rw[← u] at H
       have c0:wc.cell? ⟨w.heap.size+1+1+1,1,none⟩=some (.slice av m cv):=by have:=O.out.cell 1 (by omega); rw[if_pos rfl] at this; exact this
       clear X E F D U V Y u
       go_wp2_with (at_builtin; refine iN rfl _ _ 23 rfl wA.heap.size 3 (.int .i64 0) 1 8 Tryz.underlying23 Tryz.dA rfl (by decide) _ m xs rfl H.out (some ⟨wc.heap.size,0,none⟩) 1 1 [.int .i64 (s:Int)] rfl rfl S.out R.out aP.out aR.out aV.out ?_)
       clear c0;intro u5 w6 f A;obtain⟨a6,c6,rfl⟩:=zag f
       have B:w6.ownsRow wA.heap.size 3 1 (.slice a6 (m+1) c6) (m+1) (dD (nZ (mT d x) s)++[.int .i64 (s:Int)]):=by rw[← aU.out]; exact f
       have C:=O.out.grown M.out N.out A
       have r0:w6.cell? ⟨w.heap.size+1+1+1,1,none⟩=some (.slice av m cv):=by have:=C.cell (i:=1) (by omega); rw[if_pos rfl] at this; exact this
       have r1:w6.frozen? ⟨w.heap.size+1+1+1,1,none⟩=false:=C.frozen 1;have SN:=aD (O.out.snoc M.out N.out A B);clear f B A C H S R;obtain⟨cd,b6⟩:∃c,kO p d i x s=c:=⟨_,rfl⟩;rw[b6];have a4:=aD b6;clear b6;by_cases ec:cd=0
       ·have cL:(cd == 0)=true:=by simp[ec]
        have EC:=aD ec;clear ec;go_wp2;go_roundw
        case rel=>exact⟨s+1,_,by omega,by go_num,by rw[Gq P.out (a4.out.trans EC.out)],by rw[BR P.out]; exact SN.out⟩
        case measure=>simp[intOf]; omega
       ·have cL:(cd == 0)=false:=by simp[ec]
        have EC:=aD ec;clear ec;go_wp2;go_roundw
        case rel=>exact⟨s+1,_,by omega,by go_num,by rw[Gz P.out (by rw[a4.out]; exact EC.out),a4.out],by rw[BR P.out]; exact SN.out⟩
        case measure=>simp[intOf]; omega
    ·have dQ:s=p.aA.toNat:=by omega
     have bE:=aD dQ;clear dQ;obtain⟨b9,aM⟩:=l.out.2.2;obtain⟨aX,aY,rfl⟩:=zag aM;clear aM
     have cD:=aD (l.out.next 2 (fun k=>if k=0 then (.slice a5 a8 a7) else if k=1 then (.slice aX b9 aY) else .slice none 0 0) (.slice none 0 0) rfl fun k=>by
      rcases k with _ | _ | k
      ·rfl
      ·rfl
      ·simp)
     have M:Hid (w.heap.size+1+1+1<wB.heap.size):=Nat.lt_of_lt_of_le M.out l.out.1.size;have P1:wB.cell? ⟨w.heap.size,1,none⟩=_:=n.out.dR a9.out (j:=0) (i:=1) rfl rfl (by omega);clear eL l cF F1 W0 W3;go_wp2;clear P0 P1 T
     go_loopw [13,118] (fun hv z wr=>∃(k:Nat) (v3:Value) (L:List Int),k<=p.aE.length∧L.length<=k∧z=.int .i64 k∧hv=.int .i64 (lE p d x k)∧St (w.heap.size+1+1+1) wB wr 2 (fun k=>if k=0 then (.slice a5 a8 a7) else if k=1 then (.slice aX b9 aY) else .slice none 0 0) v3 L) (fun _ z _=>p.aE.length-(intOf z).toNat)
     case atStart=>exact⟨0,_,[],by omega,by simp,rfl,by unfold lE; simp,cD.out⟩
     case round=>
      obtain⟨k,v3,L,eI,d6,rfl,rfl,Z⟩:=hrel;rename World=>wC;have l:=aD Z;have aL:=aD (a9.out.trans Z.1);clear Z cD;by_cases T:k<p.aE.length
      ·obtain⟨pt,dO⟩:=bG d.aC (aD HR.out.2.2.2.1) T;obtain⟨sq,dU⟩:=bG p.aE (aD rfl) T;have W1:wC.cell? ⟨w.heap.size+1+1+1+1,1,none⟩=_:=n.out.dR aL.out (j:=4) (i:=1) rfl rfl (by omega);have W2:wC.cell? ⟨w.heap.size+1+1+1+1,2,none⟩=_:=n.out.dR aL.out (j:=4) (i:=2) rfl rfl (by omega);have cW:=aD dO;have cI:=aD dU
       have dJ:(k:Int)<(p.aE.length:Int):=by omega
       have fD:(k:Int)<(d.aC.length:Int):=by have:=HR.out.2.2.2.1; omega
       have u:=HS.out.2.2.1 x (List.mem_of_getElem? HX.out);obtain⟨-,eP,eQ,-⟩:=u;clear dO dU;go_wp2;clear W1 W2;obtain⟨wD,bT⟩:∃W,W=wC.alloc (.cells #[.slice s1 x.aQ.length t1,.slice s2 x.aJ.length t2] 49):=⟨_,rfl⟩;rw[← bT]
       have L0:wD.cell? ⟨wC.heap.size,0,none⟩=some (.slice s1 x.aQ.length t1):=by rw[bT]; simp
       have L1:wD.cell? ⟨wC.heap.size,1,none⟩=some (.slice s2 x.aJ.length t2):=by rw[bT]; simp
       have d4:Below wC.heap.size wC wD:=by rw[bT]; exact bC _ _
       have cU:=aD L0;have cV:=aD L1;have a4:=aD d4;clear bT L0 L1 d4
       go_loopw [15,127] (fun lv z wr=>∃(a:Nat),a<=2∧z=.int .i64 a∧lv=.int .i64 (oK (([x.aQ,x.aJ].take a).flatten) k)∧Below wD.heap.size wD wr) (fun _ z _=>2-(intOf z).toNat)
       case atStart=>exact⟨0,by omega,rfl,by rfl,Below.refl _ _⟩
       case round=>
        obtain⟨a,ha,rfl,rfl,b5⟩:=hrel;rename World=>wE;by_cases eD:a<2
        ·obtain⟨lk,ak,ck,fM,dI,cO,bR⟩:∃(lk:List (Int×Int)) (ak:Option Addr) (ck:Nat),lk.length<=1048576∧Lies (In w) w (.slice ak lk.length ck) lk∧wE.cell? ⟨wC.heap.size,a,none⟩=some (.slice ak lk.length ck)∧([x.aQ,x.aJ].take (a+1)).flatten=([x.aQ,x.aJ].take a).flatten++lk:=by
          rcases a with _ | _ | a
          ·exact⟨x.aQ,s1,t1,eP,c5.out.2.1,bP cU.out b5,by simp⟩
          ·exact⟨x.aJ,s2,t2,eQ,c5.out.2.2.1,bP cV.out b5,by simp⟩
          ·omega
         have e6:=aD dI;have e0:=aD bR;have bX:=aD b5;clear dI bR b5;go_wp2;clear cO
         go_loopw [15,133] (fun lv z wr=>∃(q:Nat),q<=lk.length∧z=.int .i64 q∧lv=.int .i64 (oK (([x.aQ,x.aJ].take a).flatten++lk.take q) k)∧Below wE.heap.size wE wr) (fun _ z _=>lk.length-(intOf z).toNat)
         case atStart=>exact⟨0,by omega,rfl,by simp,Below.refl _ _⟩
         case round=>
          obtain⟨q,hq,rfl,rfl,d5⟩:=hrel;rename World=>wF;have bY:=aD d5;clear d5;have c7:=KB.out _ ((aL.out.call a4.out).call (bX.out.trans (bY.out.mono bX.out.size)));by_cases eJ:q<lk.length
          ·obtain⟨y,hy⟩:=bG lk (aD rfl) eJ;obtain⟨bl,ol,cl,e4,-,g0,g1⟩:=DV (e6.out.keep (Q:=In wF) (In.keep c7).1 (In.keep c7).2) hy
           cases e4
           have fG:(q:Int)<(lk.length:Int):=by omega
           have dT:oK (([x.aQ,x.aJ].take a).flatten++lk.take (q+1)) k=if y.1=(k:Int) then y.2 else oK (([x.aQ,x.aJ].take a).flatten++lk.take q) k:=by
            rw[List.take_add_one,hy,← List.append_assoc];exact IW _ y _
           have cX:=aD dT;have cT:=aD (bY.out.trans ((bC wF (.cells #[.int .i64 y.1,.int .i64 y.2] 58)).mono bY.out.size));clear dT hy c7;by_cases ey:y.1=(k:Int)
           ·have eC:(y.1 == (k:Int))=true:=by simp[ey]
            have EY:=aD ey;clear ey;go_wp2;go_roundw
            case rel=>exact⟨q+1,by omega,by go_num,by rw[cX.out,if_pos EY.out],cT.out⟩
            case measure=>simp[intOf]; omega
           ·have eC:(y.1 == (k:Int))=false:=by simp[ey]
            have EY:=aD ey;clear ey;go_wp2;go_roundw
            case rel=>exact⟨q+1,by omega,by go_num,by rw[cX.out,if_neg EY.out],cT.out⟩
            case measure=>simp[intOf]; omega
          ·clear c7;go_wp2;go_roundw
           case rel=>exact⟨a+1,by omega,by go_num,by rw[e0.out,show lk.take q=lk from List.take_of_length_le (by omega)],bX.out.trans (bY.out.mono bX.out.size)⟩
           case measure=>simp[intOf]; omega
        ·have eE:a=2:=by omega
         subst eE;have d7:=l.out.call (a4.out.trans (b5.mono a4.out.size));have bE:=aD d7;have J:=aD ((aL.out.call a4.out).call b5);clear ha eD b5 d7 l a4 aL cU cV;obtain⟨ly,cP⟩:∃c,oK (([x.aQ,x.aJ].take 2).flatten) k=c:=⟨_,rfl⟩;rw[cP]
         have dM:rQ d x k=(ly != 0&&ly != pt.1):=by unfold rQ; rw[cW.out,← cP]; simp
         have c4:=aD dM;have I:=KB.out _ J.out;have KF:=HF.out.keep (Q:=In wE) (In.keep I).1 (In.keep I).2;obtain⟨bp,op,cp,e4,-,gp,-⟩:=DV KF.2.1 cW.out
         cases e4
         have F2:wE.cell? ⟨w.heap.size+1,2,none⟩=_:=n.out.dR J.out (j:=1) (i:=2) rfl rfl (by omega);clear cP dM KF;by_cases l0:ly=0
         ·have eR:(ly == 0)=true:=by simp[l0]
          have NB:=aD (show rQ d x k=false by rw[c4.out,l0]; simp);clear l0;go_wp2;go_roundw
          case rel=>exact⟨k+1,v3,L,by omega,by omega,by go_num,by rw[Af (by unfold mM; rw[NB.out]; rfl) (by unfold rA; rw[NB.out]; rfl)],bE.out⟩
          case measure=>simp[intOf]; omega
         have eR:(ly == 0)=false:=by simp[l0]
         by_cases l1:ly=pt.1
         ·have eS:(ly == pt.1)=true:=by simp[l1]
          have NB:=aD (show rQ d x k=false by rw[c4.out,l1]; simp);clear l0 l1;go_wp2;go_roundw
          case rel=>exact⟨k+1,v3,L,by omega,by omega,by go_num,by rw[Af (by unfold mM; rw[NB.out]; rfl) (by unfold rA; rw[NB.out]; rfl)],bE.out⟩
          case measure=>simp[intOf]; omega
         have eS:(ly == pt.1)=false:=by simp[l1]
         have NB:=aD (show rQ d x k=true by rw[c4.out]; simp[l0,l1]);clear l0 l1 c4
         go_upto_region 34 with fail
         clear F2 gp;have b0:wE.cell? ⟨w.heap.size,0,none⟩=_:=n.out.dR J.out (j:=0) (i:=0) rfl rfl (by omega);have b1:wE.cell? ⟨w.heap.size,1,none⟩=_:=n.out.dR J.out (j:=0) (i:=1) rfl rfl (by omega);have b2:wE.cell? ⟨w.heap.size,2,none⟩=_:=n.out.dR J.out (j:=0) (i:=2) rfl rfl (by omega);have b3:wE.cell? ⟨w.heap.size,3,none⟩=_:=n.out.dR J.out (j:=0) (i:=3) rfl rfl (by omega);have b4:wE.cell? ⟨w.heap.size,4,none⟩=_:=n.out.dR J.out (j:=0) (i:=4) rfl rfl (by omega);have d0:wE.cell? ⟨w.heap.size+1,0,none⟩=_:=n.out.dR J.out (j:=1) (i:=0) rfl rfl (by omega);have d1:wE.cell? ⟨w.heap.size+1,1,none⟩=_:=n.out.dR J.out (j:=1) (i:=1) rfl rfl (by omega);have d2:wE.cell? ⟨w.heap.size+1,2,none⟩=_:=n.out.dR J.out (j:=1) (i:=2) rfl rfl (by omega);have d3:wE.cell? ⟨w.heap.size+1,3,none⟩=_:=n.out.dR J.out (j:=1) (i:=3) rfl rfl (by omega)
         go_wp2_with fail
         refine (Aw _ _ _ _ _ _ _ _ _ p d k _ (HP.out.1.keep (In.keep I).1 (In.keep I).2) (HP.out.2.1.keep (In.keep I).1 (In.keep I).2) (HF.out.2.2.keep (In.keep I).1 (In.keep I).2) HR.out.2.2.2.2.1 HS.out (fun q g hg=>by
          obtain⟨z,hz⟩:=bG p.aB (aD rfl) (show q<p.aB.length by have:=(List.getElem?_eq_some_iff.1 hg).1; have:=HR.out.2.2.2.2.1; omega)
          exact (zF HR.out hz hg).1) T).mono ?_
         clear b0 b1 b2 b3 b4 d0 d1 d2 d3 I;rintro e wG ⟨vp,rfl,cM,mp,cQ⟩
         have dL:mp=(gS p d (k:Int)).length:=by have:=cQ.1; rw[tP] at this; omega
         obtain⟨ap,fK,rfl⟩:=zag cQ;have bF:=aD (bE.out.call cM);have bV:=aD (J.out.call cM);have cG:=aD dL;have a0:Hid (L.length<=1048576):=Nat.le_trans d6 (by omega);clear cQ cM bE J dL;by_cases hm:0<mp
         ·have fN:(0:Int)<(mp:Int):=by omega
          have LK:=aD (show mM p d x k=true by unfold mM; rw[NB.out,Bool.true_and,decide_eq_true_eq,← cG.out]; exact hm);obtain⟨m,av,cv,rfl,X,E,F,D,U,V,Y⟩:=St.ready bF.out a0.out (k:Int);have N:=aD X;have H:=aD E;have S:=aD F;have R:=aD D;have aP:=aD U;have aR:=aD V;have aV:=aD Y;obtain⟨xs,u⟩:∃xs,xs=dD (L):=⟨_,rfl⟩;have aU:=aD u;rw[← u] at H
          have c0:wG.cell? ⟨w.heap.size+1+1+1,2,none⟩=some (.slice av m cv):=by have:=bF.out.cell 2 (by omega); rw[if_pos rfl] at this; exact this
          clear X E F D U V Y u
          go_wp2_with (at_builtin; refine iN rfl _ _ 23 rfl wB.heap.size 3 (.int .i64 0) 1 8 Tryz.underlying23 Tryz.dA rfl (by decide) _ m xs rfl H.out (some ⟨wG.heap.size,0,none⟩) 1 1 [.int .i64 (k:Int)] rfl rfl S.out R.out aP.out aR.out aV.out ?_)
          clear c0;intro u5 w6 f A;obtain⟨a6,c6,rfl⟩:=zag f
          have B:w6.ownsRow wB.heap.size 3 1 (.slice a6 (m+1) c6) (m+1) (dD (L)++[.int .i64 (k:Int)]):=by rw[← aU.out]; exact f
          have C:=bF.out.grown M.out N.out A
          have r0:w6.cell? ⟨w.heap.size+1+1+1,2,none⟩=some (.slice av m cv):=by have:=C.cell (i:=2) (by omega); rw[if_pos rfl] at this; exact this
          have r1:w6.frozen? ⟨w.heap.size+1+1+1,2,none⟩=false:=C.frozen 2;have SN:=aD (bF.out.snoc M.out N.out A B);clear f B A C H S R;go_wp2;go_roundw
          case rel=>exact⟨k+1,_,L++[(k:Int)],by omega,by rw[List.length_append]; simp; omega,by go_num,by rw[GZ LK.out],SN.out⟩
          case measure=>simp[intOf]; omega
         ·have LK:=aD (show mM p d x k=false by unfold mM; rw[NB.out,Bool.true_and,decide_eq_false_iff_not,← cG.out]; exact hm);have c9:bN sq 0 (p.aA-1):=Classical.byContradiction fun e=>HR.out.1.parts.2.1 k ⟨sq,cI.out,e⟩;obtain⟨sn,rfl⟩:∃t:Nat,sq=t:=⟨sq.toNat,by have:=c9.1; omega⟩;obtain⟨o,ho⟩:=bG d.aH (aD rfl) (show sn<d.aH.length by have:=c9.2; have:=HR.out.2.2.1; omega)
          have dS:rA p d x k=o:=by
           unfold rA;rw[NB.out,Bool.true_and,decide_eq_false (show ¬ 0<(gS p d (k:Int)).length by rw[← cG.out]; exact hm),Bool.not_false,Bool.true_and,List.getD_eq_getElem?_getD,cI.out];unfold eA;show (match d.aH[((sn:Int)).toNat]? with | some b=>b | none=>false)=o;rw[show ((sn:Int)).toNat=sn by simp,ho]
          have cH:=aD dS;have I:=KB.out _ bV.out;have KF:=HF.out.keep (Q:=In wG) (In.keep I).1 (In.keep I).2;have KP:=HP.out.keep (Q:=In wG) (In.keep I).1 (In.keep I).2;obtain⟨bs,os,cs,e5,-,gs⟩:=BO KP.1 cI.out;obtain⟨bo,oo,co,e4,-,go⟩:=xO KF.1 ho
          cases e4
          cases e5
          have b1:wG.cell? ⟨w.heap.size,1,none⟩=_:=n.out.dR bV.out (j:=0) (i:=1) rfl rfl (by omega);have d1:wG.cell? ⟨w.heap.size+1,1,none⟩=_:=n.out.dR bV.out (j:=1) (i:=1) rfl rfl (by omega)
          have fP:(sn:Int)<(d.aH.length:Int):=by have:=c9.2; have:=HR.out.2.2.1; omega
          obtain rfl:mp=0:=by omega
          clear hm c9 ho dS KF KP I
          go_upto_region 37 with fail
          have dN:=Ext.any wG;have eY:=Ext.cell b1;have eZ:=Ext.cell d1;have f7:=Ext.cell gs;have f5:=Ext.cell go;clear b1 d1 gs go;refine gQ (by kernel_rfl) (by kernel_rfl) ?_
          repeat (go_big_quiet_step (fail))
          refine wpQuiet_nil ?_;rintro _ ⟨G,rfl⟩;have bH:=aD (bF.out.call G.below);clear dN eY eZ f7 f5;obtain⟨WH,d8⟩:∃W,G.w=W:=⟨_,rfl⟩;rw[d8] at bH ⊢;clear d8 G;clear bF bV;obtain⟨hv,b7⟩:∃c,lE p d x k=c:=⟨_,rfl⟩;have bZ:=aD b7;rw[b7];clear b7
          cases o
          ·go_wp2;go_roundw
           case rel=>exact⟨k+1,v3,L,by omega,by omega,by go_num,by rw[Af LK.out cH.out,bZ.out],bH.out⟩
           case measure=>simp[intOf]; omega
          ·
           obtain⟨m,av,cv,rfl,X,E,F,D,U,V,Y⟩:=St.ready bH.out a0.out (k:Int);have N:=aD X;have H:=aD E;have S:=aD F;have R:=aD D;have aP:=aD U;have aR:=aD V;have aV:=aD Y;obtain⟨xs,u⟩:∃xs,xs=dD (L):=⟨_,rfl⟩;have aU:=aD u;rw[← u] at H
           have c0:WH.cell? ⟨w.heap.size+1+1+1,2,none⟩=some (.slice av m cv):=by have:=bH.out.cell 2 (by omega); rw[if_pos rfl] at this; exact this
           clear X E F D U V Y u
           go_wp2_with (at_builtin; refine iN rfl _ _ 23 rfl wB.heap.size 3 (.int .i64 0) 1 8 Tryz.underlying23 Tryz.dA rfl (by decide) _ m xs rfl H.out (some ⟨WH.heap.size,0,none⟩) 1 1 [.int .i64 (k:Int)] rfl rfl S.out R.out aP.out aR.out aV.out ?_)
           clear c0;intro u5 w6 f A;obtain⟨a6,c6,rfl⟩:=zag f
           have B:w6.ownsRow wB.heap.size 3 1 (.slice a6 (m+1) c6) (m+1) (dD (L)++[.int .i64 (k:Int)]):=by rw[← aU.out]; exact f
           have C:=bH.out.grown M.out N.out A
           have r0:w6.cell? ⟨w.heap.size+1+1+1,2,none⟩=some (.slice av m cv):=by have:=C.cell (i:=2) (by omega); rw[if_pos rfl] at this; exact this
           have r1:w6.frozen? ⟨w.heap.size+1+1+1,2,none⟩=false:=C.frozen 2;have SN:=aD (bH.out.snoc M.out N.out A B);clear f B A C H S R;by_cases eh:hv=0
           ·have eB:(hv == 0)=true:=by simp[eh]
            have EH:=aD eh;clear eh;go_wp2;go_roundw
            case rel=>exact⟨k+1,_,L++[(k:Int)],by omega,by rw[List.length_append]; simp; omega,by go_num,by rw[Fp LK.out cH.out (bZ.out.trans EH.out)],SN.out⟩
            case measure=>simp[intOf]; omega
           ·have eB:(hv == 0)=false:=by simp[eh]
            have EH:=aD eh;clear eh;go_wp2;go_roundw
            case rel=>exact⟨k+1,_,L++[(k:Int)],by omega,by rw[List.length_append]; simp; omega,by go_num,by rw[Fi LK.out cH.out (by rw[bZ.out]; exact EH.out),bZ.out],SN.out⟩
            case measure=>simp[intOf]; omega
      ·have eH:k=p.aE.length:=by omega
       subst eH;obtain⟨bU,aM⟩:=l.out.2.2;obtain⟨bK,bL,rfl⟩:=zag aM;clear aM;have q0:wC.cell? ⟨w.heap.size+1+1+1,0,none⟩=some (.slice a5 a8 a7):=l.out.cell 0 (by omega);have q1:wC.cell? ⟨w.heap.size+1+1+1,1,none⟩=some (.slice aX b9 aY):=l.out.cell 1 (by omega);have q2:wC.cell? ⟨w.heap.size+1+1+1,2,none⟩=some (.slice bK bU bL):=l.out.cell 2 (by omega);have aN:=aL.out.row (n.out.row 2 _ _ rfl) (show w.heap.size+2≠w.heap.size+1+1+1 by omega);have r0:wC.cell? ⟨w.heap.size+1+1,0,none⟩=_:=aN.cell (i:=0) (by simp);have r1:wC.cell? ⟨w.heap.size+1+1,1,none⟩=_:=aN.cell (i:=1) (by simp);have r2:wC.cell? ⟨w.heap.size+1+1,2,none⟩=_:=aN.cell (i:=2) (by simp);have z0:wC.frozen? ⟨w.heap.size+1+1,0,none⟩=false:=aN.frozen 0;have z1:wC.frozen? ⟨w.heap.size+1+1,1,none⟩=false:=aN.frozen 1;have z2:wC.frozen? ⟨w.heap.size+1+1,2,none⟩=false:=aN.frozen 2;have dY:=aD (KB.out _ aL.out)
       have bO:xY p d i x=if kO p d i x s=0 then lE p d x p.aE.length else kO p d i x s:=by unfold xY; rw[bE.out]
       obtain⟨cd,b6⟩:∃c,kO p d i x s=c:=⟨_,rfl⟩;obtain⟨hv,b7⟩:∃c,lE p d x p.aE.length=c:=⟨_,rfl⟩;rw[b6,b7] at bO;rw[b6,b7];have bW:=aD bO;have c8:=((aN.set 0 (.slice a5 a8 a7)).set 1 (.slice aX b9 aY)).set 2 (.slice bK bU bL);have y0:=c8.cell (i:=0) (by simp);have y1:=c8.cell (i:=1) (by simp);have y2:=c8.cell (i:=2) (by simp);simp at y0 y1 y2;have cS:=aD (((((But.aG (K:=fun _=>True) dY.out).cN (p:=⟨w.heap.size+1+1,0,none⟩) (by simp; omega) (.slice a5 a8 a7)).cN (p:=⟨w.heap.size+1+1,1,none⟩) (by simp; omega) (.slice aX b9 aY)).cN (p:=⟨w.heap.size+1+1,2,none⟩) (by simp; omega) (.slice bK bU bL)).below (Nat.le_refl _) fun _ _=>trivial);clear aN c8 b6 b7 bO l aL eI d6;by_cases ec:cd=0
       ·have cL:(cd == 0)=true:=by simp[ec]
        have EC:=aD (bW.out.trans (if_pos ec));clear ec bW;go_wp2;refine bodyPost_ret (v:=.tuple #[.agg #[.slice a5 a8 a7,.slice aX b9 aY,.slice bK bU bL],.int .i64 hv]) (by simp[results,Tryz.results119,go_sem,y0,y1,y2]) rfl ⟨⟨_,_,_,_,_,_,_,_,_,by rw[EC.out]⟩,cS.out⟩
       ·have cL:(cd == 0)=false:=by simp[ec]
        have EC:=aD (bW.out.trans (if_neg ec));clear ec bW;go_wp2;refine bodyPost_ret (v:=.tuple #[.agg #[.slice a5 a8 a7,.slice aX b9 aY,.slice bK bU bL],.int .i64 cd]) (by simp[results,Tryz.results119,go_sem,y0,y1,y2]) rfl ⟨⟨_,_,_,_,_,_,_,_,_,by rw[EC.out]⟩,cS.out⟩
end
section
open Classical
theorem A0 {k:Int}:∀(l:List (Int×Int)) (a:Int),(∀y∈l,y.1≠k)->l.foldl (fun a y=>if y.1=k then y.2 else a) a=a
 | [],_,_=>rfl
 | y :: l,a,h=>by
  rw[List.foldl_cons,if_neg (h y List.mem_cons_self)]
  exact A0 l a fun z b=>h z (List.mem_cons_of_mem _ b)
theorem A5 {k:Int}:∀(l:List (Int×Int)) (a:Int),(∃y∈l,y.1=k)->∃z∈l,z.1=k∧l.foldl (fun a y=>if y.1=k then y.2 else a) a=z.2
 | [],_,⟨y,hy,_⟩=>by cases hy
 | y :: l,a,⟨z,c,e⟩=>by
  rw[List.foldl_cons]
  by_cases h:∃u∈l,u.1=k
  ·obtain⟨u,b,f,g⟩:=A5 l (if y.1=k then y.2 else a) h
   exact⟨u,List.mem_cons_of_mem _ b,f,g⟩
  ·have d:∀u∈l,u.1≠k:=fun u b e=>h ⟨u,b,e⟩
   rcases List.mem_cons.1 c with rfl | c
   ·rw[if_pos e,A0 l _ d]
    exact⟨z,List.mem_cons_self,e,rfl⟩
   ·exact absurd e (d z c)
theorem DD {m:Nat}{l:List (Int×Int)}(h:dJ m l) {y z:Int×Int}(c:y∈l) (d:z∈l) (e:y.1=z.1):y=z:=by
 obtain⟨j,b⟩:=List.getElem?_of_mem c;obtain⟨k,a⟩:=List.getElem?_of_mem d;have f:=(List.getElem?_eq_some_iff.1 b).1;have g:=(List.getElem?_eq_some_iff.1 a).1;rcases Nat.lt_trichotomy j k with q | q | q
 ·exact absurd e ((h.1 k g z a).2 j y q b)
 ·subst q; rw[b] at a; exact Option.some.inj a
 ·exact absurd e.symm ((h.1 j f y b).2 k z q a)
theorem Ij {n:Int}{g:List Int}{x:aT}(h:dG n g x) {y z:Int×Int}(a:y∈x.aQ++x.aJ) (b:z∈x.aQ++x.aJ) (e:y.1=z.1):y=z:=by
 obtain⟨-,-,-,-,d,f,c,-⟩:=h
 rcases List.mem_append.1 a with a | a <;> rcases List.mem_append.1 b with b | b
 ·exact DD d a b e
 ·exact absurd e ((c y a).1 z b)
 ·exact absurd e.symm ((c z b).1 y a)
 ·exact DD f a b e
theorem EP {n:Int}{d:List Int}{x:aT}(h:dG n d x) {y:Int×Int}(c:y∈x.aQ++x.aJ):0<=y.1∧y.1<d.length∧y.2≠0:=by
 obtain⟨-,-,-,-,f,g,-,-⟩:=h
 have:∀l,dJ d.length l->y∈l->0<=y.1∧y.1<d.length∧y.2≠0:=fun l i c=>by
  obtain⟨j,e⟩:=List.getElem?_of_mem c;obtain⟨⟨a,b⟩,-⟩:=i.1 j (List.getElem?_eq_some_iff.1 e).1 y e;have:=a.1; have:=a.2; have:=b.1;exact⟨by omega,by omega,by omega⟩
 rcases List.mem_append.1 c with c | c
 ·exact this _ f c
 ·exact this _ g c
theorem IX {n:Int}{e:List Int}{x:aT}(h:dG n e x) {y:Int×Int}(a:y∈x.aQ++x.aJ):oK (x.aQ++x.aJ) y.1=y.2:=by
 obtain⟨z,d,b,c⟩:=A5 (k:=y.1) (x.aQ++x.aJ) 0 ⟨y,a,rfl⟩;unfold oK;rw[c,Ij h d a b]
theorem Gj {l:List (Int×Int)}{k:Int}(h:oK l k≠0):∃y∈l,y.1=k∧y.2=oK l k:=by
 by_cases e:∃y∈l,y.1=k
 ·obtain⟨z,d,a,b⟩:=A5 l 0 e;exact⟨z,d,a,b.symm⟩
 ·exact absurd (A0 l 0 fun y c q=>e ⟨y,c,q⟩) h
theorem JQ {p:aK}{d:aF}(a:cJ p d) {k:Nat}(b:k<p.aE.length):∃pt,d.aC[k]?=some pt∧uA d.aC k=pt.1:=by
 obtain⟨pt,h⟩:=bG d.aC (aD a.2.2.2.1) b;refine⟨pt,h,?_⟩;unfold uA;rw[show ((k:Int)).toNat=k by simp,h];rfl
theorem yZ {p:aK}{d:aF}{x:aT}{i:Nat}(g:cJ p d) (n:p.aB[i]?=some x) {k:Nat}(m:k<p.aE.length):rQ d x k=true↔∃y∈oI d.aC x,y.1=k:=by
 have h:=g.1.way n;obtain⟨o,l,f⟩:=JQ g m;unfold rQ oI;rw[l];simp only[Bool.and_eq_true,bne_iff_ne,ne_eq,List.mem_filter];constructor
 ·rintro⟨b,e⟩;obtain⟨y,c,a,j⟩:=Gj b;exact⟨y,⟨c,by rw[a,f,j]; exact fun q=>e q.symm⟩,a⟩
 ·rintro⟨y,⟨c,b⟩,e⟩;have a:=IX h c;rw[e] at a b;rw[a];exact⟨(EP h c).2.2,fun q=>b (by rw[f,q])⟩
theorem Dz {p:aK}{d:aF}{x:aT}{i:Nat}(a:cJ p d) (b:p.aB[i]?=some x) {y:Int×Int}(c:y∈oI d.aC x):∃k:Nat,y.1=k∧k<p.aE.length:=by
 have:=EP (a.1.way b) (List.mem_filter.1 c).1;exact⟨y.1.toNat,by omega,by omega⟩
theorem CU {p:aK}{d:aF}{i:Nat}{x:aT}{h:aM}(m:p.aB[i]?=some x) (g:d.aB[i]?=some h) (f:h.state=0) (y:Int×Int):vC p d i y=decide (0<(gS p d y.1).length):=by
 have b:∀z∈gS p d y.1,z≠(i:Int):=fun z c e=>by
  unfold gS at c;obtain⟨j,k,rfl⟩:=List.mem_map.1 c;have:=(List.mem_filter.1 k).2
  have e:j=i:=by omega
  subst e;have n:0<pR p d y.1 j:=of_decide_eq_true this
  have o:pR p d y.1 j=0:=by unfold pR; rw[m,g]; exact A8 f
  omega
 unfold vC
 cases hl:gS p d y.1 with
 | nil=>rfl
 | cons a l=>
  rw[hl] at b;have:=b a List.mem_cons_self;rw[List.any_cons,bne_iff_ne.2 this];simp
theorem zP {α β:Type}{l:List α}{m:List β}{f:α->Bool}{g:β->Bool}(c:∀a∈l,f a=true->∃b∈m,g b=true) (d:∀b∈m,g b=true->∃a∈l,f a=true):l.any f=m.any g:=by
 rw[Bool.eq_iff_iff,List.any_eq_true,List.any_eq_true];exact⟨fun ⟨a,ha,h⟩=>c a ha h,fun ⟨b,hb,h⟩=>d b hb h⟩
theorem ED {α:Type}{l:List α}{f:α->Bool}:(0<(l.filter f).length)=(l.any f=true):=by
 rw[List.length_pos_iff_exists_mem,List.any_eq_true];exact propext ⟨fun ⟨a,h⟩=>⟨a,(List.mem_filter.1 h).1,(List.mem_filter.1 h).2⟩,fun ⟨a,h,e⟩=>⟨a,List.mem_filter.2 ⟨h,e⟩⟩⟩
theorem Iv {p:aK}{d:aF}{i:Nat}{x:aT}{h:aM}(g:cJ p d) (b:p.aB[i]?=some x) (l:d.aB[i]?=some h) (j:h.state=0):(oI d.aC x).any (vC p d i)=(List.range p.aE.length).any (mM p d x):=by
 refine zP (fun y f e=>?_) fun k a e=>?_
 ·obtain⟨k,c,a⟩:=Dz g b f;refine⟨k,List.mem_range.2 a,?_⟩;unfold mM;rw[(yZ g b a).2 ⟨y,f,c⟩,Bool.true_and,← c,← CU b l j y];exact e
 ·have a:=List.mem_range.1 a;unfold mM at e;rw[Bool.and_eq_true] at e;obtain⟨y,f,c⟩:=(yZ g b a).1 e.1;exact⟨y,f,by rw[CU b l j y,c]; exact e.2⟩
theorem Au (aH:List Bool) (s:Int):eA aH s=aH.getD s.toNat false:=by
 unfold eA;rw[List.getD_eq_getElem?_getD]
 cases aH[s.toNat]? <;> rfl
theorem Ho {p:aK}{d:aF}{i:Nat}{x:aT}(h:cJ p d) (l:p.aB[i]?=some x) (m:¬(List.range p.aE.length).any (mM p d x)=true):(oI d.aC x).any (tZ p d)=(List.range p.aE.length).any (rA p d x):=by
 have j:∀k,k<p.aE.length->rQ d x k=true->decide (0<(gS p d (k:Int)).length)=false:=fun k a e=>by
  cases e2:decide (0<(gS p d (k:Int)).length)
  ·rfl
  ·exact absurd (List.any_eq_true.2 ⟨k,List.mem_range.2 a,by unfold mM; rw[e,e2]; rfl⟩) m
 have c:∀(y:Int×Int) (k:Nat),y.1=k->tZ p d y=eA d.aH (p.aE.getD k 0):=fun y k e=>by
  unfold tZ;rw[Au,e,show ((k:Int)).toNat=k by simp]
 refine zP (fun y g e=>?_) fun k a e=>?_
 ·obtain⟨k,f,a⟩:=Dz h l g;have b:=(yZ h l a).2 ⟨y,g,f⟩;refine⟨k,List.mem_range.2 a,?_⟩;unfold rA;rw[b,j k a b,← c y k f,e];rfl
 ·have a:=List.mem_range.1 a;unfold rA at e;rw[Bool.and_eq_true,Bool.and_eq_true] at e;obtain⟨y,g,f⟩:=(yZ h l a).1 e.1;exact⟨y,g,by rw[c y k f]; exact e.2.2⟩
theorem IG {p:aK}{d:aF}{i:Nat}{x:aT}(m:cJ p d) (o:p.aB[i]?=some x):(0<(tY d.aH x).length)=((List.range p.aA.toNat).any (mT d x)=true):=by
 have k:=m.1.way o
 have f:∀(s:Nat) (l:List Int),kP [(s:Int)] l=true↔(s:Int)∈l:=fun s l=>by
  unfold kP;rw[List.any_cons,List.any_nil,Bool.or_false,List.any_eq_true];constructor
  ·rintro⟨t,b,e⟩
   have:t=s:=by simpa using e
   exact this ▸ b
  ·exact fun h=>⟨_,h,by simp⟩
 have c:∀s∈x.aA++x.over,0<=s∧s<p.aA:=fun s a=>by
  have:∀l,bJ p.aA l->s∈l->0<=s∧s<p.aA:=fun l n a=>by
   obtain⟨j,g⟩:=List.getElem?_of_mem a;have:=(n.1 j (List.getElem?_eq_some_iff.1 g).1 s g).1;exact⟨this.1,by have:=this.2; omega⟩
  rcases List.mem_append.1 a with a | a
  ·exact this _ k.2.1 a
  ·exact this _ k.2.2.1 a
 unfold tY;rw[ED];congr 1;refine zP (fun s a e=>?_) fun s a e=>?_
 ·unfold rD at a;obtain⟨t,b,rfl⟩:=List.mem_map.1 a;have q:=c t b;refine⟨t.toNat,List.mem_range.2 (by omega),?_⟩;unfold mT;rw[Au,show ((t.toNat:Nat):Int)=t by omega,e,Bool.true_and,Bool.or_eq_true];have:=f t.toNat;rw[show ((t.toNat:Nat):Int)=t by omega] at this;rcases List.mem_append.1 b with h | h
  ·exact .inl ((this _).2 h)
  ·exact .inr ((this _).2 h)
 ·unfold mT at e;rw[Bool.and_eq_true,Bool.or_eq_true,f,f,Au] at e;refine⟨s,?_,by simpa using e.1⟩;unfold rD;exact List.mem_map.2 ⟨(s:Int),List.mem_append.2 e.2,by simp⟩
theorem Il {p:aK}{d:aF}{i:Nat}{x:aT}(k:cJ p d) (l:p.aB[i]?=some x):(0<(qY p d i).length)=((List.range p.aB.length).any (jU p d i x)=true):=by
 have o:d.aB.length=p.aB.length:=k.2.2.2.2.1;have h:=(List.getElem?_eq_some_iff.1 l).1
 have f:∀(j:Nat) (g:aM),j<p.aB.length->d.aB[j]?=some g->jU p d i x j=(tK p i j&&g.state != 0):=fun j g a c=>by
  obtain⟨y,t⟩:=bG p.aB (aD rfl) a;obtain⟨r,b,v,s,u,q⟩:=k.1.row h a;unfold jU tK;rw[l,t,c,q];show ((j != i)&&g.state != 0&&(b || tL x.aA y.over || tL x.over y.aA))=(((j:Int) != (i:Int))&&(b || (tL x.aA y.over || tL x.over y.aA))&&g.state != 0)
  have e:((j:Int) != (i:Int))=(j != i):=by
   rw[Bool.eq_iff_iff,bne_iff_ne,bne_iff_ne]; omega
  rw[e,Bool.or_assoc]
  cases (j != i) <;> cases (g.state != 0) <;> simp
 unfold qY;rw[ED];congr 1;refine zP (fun j a e=>?_) fun j a e=>?_
 ·obtain⟨m,n⟩:=xQ a;obtain⟨g,c⟩:=bG d.aB (aD rfl) m;exact⟨j,List.mem_range.2 (by omega),by rw[f j g (by omega) c,e,Bool.true_and,← xI c]; exact n⟩
 ·have a:=List.mem_range.1 a;obtain⟨g,c⟩:=bG d.aB (aD o) a;rw[f j g a c,Bool.and_eq_true,bne_iff_ne] at e;exact⟨j,List.mem_filter.2 ⟨List.mem_range.2 (by omega),by rw[xI c,bne_iff_ne]; exact e.2⟩,e.1⟩
theorem JR {p:aK}{d:aF}{i:Nat}{x:aT}{h:aM}(b:cJ p d) (c:p.aB[i]?=some x) (j:d.aB[i]?=some h) (g:h.state=0):kQ p d i x h=xY p d i x:=by
 unfold kQ pT xY kO lE;rw[g];simp only[Il b c,IG b c,Iv b c j g];by_cases a:(List.range p.aB.length).any (jU p d i x)=true
 ·simp[a]
 ·by_cases e:(List.range p.aA.toNat).any (mT d x)=true
  ·simp[a,e]
  ·by_cases f:(List.range p.aE.length).any (mM p d x)=true
   ·simp[a,e,f]
   ·rw[Ho b c f];simp[a,e,f]
theorem JE {p:aK}{d:aF}{i:Nat}{x:aT}{h:aM}(a:h.state≠0):kQ p d i x h=2:=by
 unfold kQ pT;rw[if_pos (bne_iff_ne.2 a)]
end
section
open Classical Go.Deep Go.RowKit
set_option maxRecDepth 100000 in
set_option maxHeartbeats 4000000 in
theorem IT (q r s f1 m n:Value) (p:aK) (d:aF) (i:Nat) (x:aT) (h:aM) (w:World) (f:aZ (In w) w q r s p) (c:bB (In w) w f1 m n d) (G:p.Small 1048576) (o:d.Small 1048576) (D:cJ p d) (H:p.aB[i]?=some x) (g:d.aB[i]?=some h) :
  Calls Tryz.prog 71 #[.agg #[.int .i64 p.aA,q,r,s,.int .i64 p.aI],.agg #[.bool d.ok,f1,m,n],.int .i64 (i:Int)] w fun e w'=>e=.returned (.int .i64 (kQ p d i x h))∧Below w.heap.size w w':=by
 have a:=eB w 27 40 #[.int .i64 p.aA,q,r,s,.int .i64 p.aI] #[.bool d.ok,f1,m,n];have L:=aD fun (W:World) (h:Below w.heap.size w W)=>f.keep (Q:=In W) (In.keep h).1 (In.keep h).2;have v:=aD fun (W:World) (h:Below w.heap.size w W)=>c.keep (Q:=In W) (In.keep h).1 (In.keep h).2;obtain⟨a1,c1,rfl⟩:=f.1.size;obtain⟨a2,c2,rfl⟩:=f.2.1.size;obtain⟨a3,c3,rfl⟩:=f.2.2.size;obtain⟨o1,m1,rfl⟩:=c.1.size;obtain⟨o2,m2,rfl⟩:=c.2.1.size;obtain⟨o3,m3,rfl⟩:=c.2.2.size;have K:=aD G;have I:=aD o;have t:=aD D;have u:=aD H;have J:=aD g;obtain⟨bh,oh,ch,R,-,V⟩:=Cu (v.out _ a.below).2.2 g
 cases R
 have F:(i:Int)<(d.aB.length:Int):=by have:=(List.getElem?_eq_some_iff.1 g).1; omega
 have X:d.aB.length<=1048576:=o.2.2.1;clear G o f c D H g;go_enter Tryz.func71,Tryz.ntmps71;have y:=a.c 0 0 rfl rfl;have z:=a.c 0 1 rfl rfl;have A:=a.c 0 2 rfl rfl;have B:=a.c 0 3 rfl rfl;have C:=a.c 0 4 rfl rfl;have M:=a.c 1 0 rfl rfl;have N:=a.c 1 1 rfl rfl;have O:=a.c 1 2 rfl rfl;have P:=a.c 1 3 rfl rfl;rw[Nat.add_zero] at y z A B C;by_cases b:h.state=0
 ·have z0:(h.state != 0)=false:=by simp[b]
  have k:=aD b;clear b
  go_wp2_with fail
  refine (G6 _ _ _ _ _ _ p d i x _ (L.out _ a.below) (v.out _ a.below) K.out I.out t.out u.out).mono ?_;clear y z A B C M N O P;rintro e w1 ⟨⟨S,n1,Y,T,n2,Z,U,n3,k3,rfl⟩,E⟩;have l:=aD ((a.call E).call (bC w1 (.cells #[.slice S n1 Y,.slice T n2 Z,.slice U n3 k3] 63))).below;clear a E V;go_wp2;go_ret;exact⟨vV (JR t.out u.out J.out k.out).symm,l.out⟩
 ·have z0:(h.state != 0)=true:=by simp[b]
  have k:=aD b;have l:=aD a.below;clear b a;go_wp2;go_ret;exact⟨vV (JE k.out).symm,l.out⟩
end
end Go.Proofs.YtdhinkgjiapigaaGreatDoor
