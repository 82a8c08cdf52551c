import Derived.Shelf.Strconv.Itoa3
import Derived.Test.YtdhinkgjiapigaaGreatDoorShL
import Derived.Test.YtdhinkgjiapigaaGreatDoorRunS
namespace Go.Proofs
open Go.Shelf
shelf_lay Lays.n171 Nm 171 at Tryz as Tryz.lays171
end Go.Proofs
namespace Go.Proofs.YtdhinkgjiapigaaGreatDoor
section
open Classical
def zD (p:aK) (es:List (Int×Int×Int)) (i:Nat):aF:=rC (bT p) (iV p (bT p) (es.take i))
theorem Ff {p:aK}(b:Right p) (a:List (Int×Int×Int)) {i:Nat}(hi:i<=a.length):cJ p (zD p a i):=BM b a i hi
theorem JA (p:aK) (a:List (Int×Int×Int)) (k:Nat) (j:k<=a.length):∀i,i<k->∃e,a[i]?=some e∧(iV p (bT p) (a.take k))[i]?=some (jW p (zD p a i) e):=by
 induction k with
 | zero=>intro i hi; omega
 | succ k ih=>
  intro i hi;obtain⟨e,c⟩:=bG a (aD rfl) (show k<a.length by omega);rw[vO p (bT p) c];have d:=yW p (bT p) a k (by omega);by_cases h:i=k
  ·subst h;refine⟨e,c,?_⟩;rw[List.getElem?_append_right (by omega),d,Nat.sub_self];rfl
  ·obtain⟨f,b,g⟩:=ih (by omega) i (by omega);refine⟨f,b,?_⟩;rw[List.getElem?_append_left (by rw[d]; omega)];exact g
theorem Ed {p:aK}{a:List (Int×Int×Int)}{i:Nat}(hi:i<a.length):∃e,a[i]?=some e∧(iV p (bT p) a)[i]?=some (jW p (zD p a i) e):=by
 have:=JA p a a.length (Nat.le_refl _) i hi;rw[List.take_length] at this;exact this
theorem zT (p:aK) (a:List (Int×Int×Int)):(iV p (bT p) a).length=a.length:=by
 have:=yW p (bT p) a a.length (Nat.le_refl _);rw[List.take_length] at this;exact this
theorem Ee {p:aK}(c:Right p) {a:List (Int×Int×Int)}{i:Nat}{x:Int×aF}(b:(iV p (bT p) a)[i]?=some x):cJ p x.2:=by
 have hi:i<a.length:=by
  have:=(List.getElem?_eq_some_iff.1 b).1;rw[zT] at this;exact this
 obtain⟨e,f,d⟩:=Ed (p:=p) hi;rw[d] at b
 cases b
 exact BN (Ff c a (by omega)) e
end
section
open Go.Deep Go.RowKit Go.Shelf
def bX (i:Nat):UInt8:=UInt8.ofNat (48+i)
theorem qC (i:Nat) (hi:i<10) (w:World):Calls Tryz.prog 44 #[.int .i64 (i:Int)] w fun e w'=>e=.returned (.string (tx [bX i]))∧w'=w:=
 (Any.strconv_Itoa_small Tryz.lays171 i (by omega) w).mono fun e w' ⟨h1,h2⟩=>⟨by rw[h1,Lib.decDigits_one hi]; rfl,h2⟩
theorem lQ {i:Nat}(hi:i<10):(bX i).toNat=48+i:=by
 unfold bX;rw[UInt8.toNat_ofNat'];omega
set_option maxRecDepth 100000 in
set_option maxHeartbeats 1000000 in
theorem kA (i:Nat) (hi:i<10) (w:World):Calls Tryz.prog 48 #[.int .i64 (i:Int)] w fun e w'=>e=.returned (.string (tx [bX i]))∧Below w.heap.size w w':=by
 go_enter Tryz.func48,Tryz.ntmps48;by_cases d:i=0
 ·subst d;go_wp2;go_ret;exact⟨rfl,Below.refl _ _⟩
 ·have f:((i:Int) == 0)=false:=by simp; omega
  go_wp2
  go_loopw [0,3] (fun v o wr=>(v=.int .i64 (i:Int)∧o=.string ⟨#[]⟩∨v=.int .i64 0∧o=.string (tx [bX i]))∧Below w.heap.size w wr) (fun v _ _=>(intOf v).toNat)
  case atStart=>exact⟨.inl ⟨rfl,rfl⟩,Below.refl _ _⟩
  case round=>
   obtain⟨⟨rfl,rfl⟩ | ⟨rfl,rfl⟩,a⟩:=hrel
   ·have h:decide ((0:Int)<(i:Int))=true:=decide_eq_true (by omega)
    have l:(i:Int) % 10=(i:Int):=by omega
    have m:(i:Int) / 10=0:=by omega
    go_wp2;rw[show Value.int .u8 (48+(i:Int))=.int .u8 ((bX i).toNat:Int) by rw[lQ hi]; rfl]
    have c:(convert 22 9 (.slice (some ⟨wr.heap.size,0,none⟩) 1 1)).run Tryz.prog (wr.alloc (.cells #[.int .u8 ((bX i).toNat:Int)] 5))=.ok (.string (tx [bX i])) (wr.alloc (.cells #[.int .u8 ((bX i).toNat:Int)] 5)):=
     run_convert_bytes_back (wr.alloc (.cells #[.int .u8 ((bX i).toNat:Int)] 5)) 22 9 5 ⟨wr.heap.size,0,none⟩ 1 [bX i] Tryz.underlying22 Tryz.underlying5 Tryz.underlying9 fun k g=>by
      obtain rfl:k=0:=by simpa using g
      have:=(cZ wr 5 #[.int .u8 ((bX i).toNat:Int)]).c 0 0 rfl rfl;rw[Nat.add_zero] at this;exact this
    rw[c];have b:=aD (a.trans ((bC wr (.cells #[.int .u8 ((bX i).toNat:Int)] 5)).mono a.size));simp only[Result.andThen];rw[Oper.upon_value];go_wp2;go_roundw
    case rel=>exact⟨.inr ⟨rfl,rfl⟩,b.out⟩
    case measure=>simp[intOf]; omega
   ·go_wp2;go_ret;exact⟨rfl,a⟩
theorem mD (m:List UInt8):Lib.strCells (tx m)=Lib.byteCells m:=rfl
set_option maxRecDepth 100000 in
set_option maxHeartbeats 1000000 in
theorem fG (B b:Nat) (l m:List UInt8) (w:World) (h:eN B b l w) (Q:l.length+m.length<=1000000000) (hB:B<=w.heap.size) :
  Calls Tryz.prog 43 #[.pointer (some ⟨b,0,none⟩),.string (tx m)] w fun e w'=>e=.returned (.tuple #[.int .i64 m.length,.nilIface])∧eN B b (l++m) w'∧Below B w w'∧aY b w w':=by
 obtain⟨X,hi,M,N,O⟩:=info_parts Tryz.Builder_Extra_169.infoByte;have u:=aD (Et B b (Lib.byteCells l) w h);obtain⟨s,E⟩:∃s,s=tx m:=⟨_,rfl⟩
 have K:s.size=m.length:=by rw[E,mQ]
 have C:Lib.strCells s=Lib.byteCells m:=by rw[E]; exact mD m
 rw[← E];clear h E;go_enter Tryz.func43,Tryz.ntmps43
 go_wp2_with fail
 refine u.out.mono ?_;rintro e R ⟨rfl,⟨x,v,j,f,A⟩,q,z⟩
 have Y:R.cell? ⟨b,1,none⟩=some v:=by rw[Lib.cell_of_heap j]; rfl
 have J:b<R.heap.size:=(Array.getElem?_eq_some_iff.1 j).1;have G:=aD C;have F:=aD z;have t:=aD q;clear C z u
 go_wp2_with (at_builtin; refine Lib.wpList_append_own_string _ rfl _ _ 22 9 rfl B 5 X Tryz.underlying22 Tryz.underlying9 hi M N O _ _ _ rfl f s rfl ?c3 ?c4 ?c5 ?_)
 case c3=>unfold maxLen; rw[Lib.byteCells_length]; omega
 case c4=>rw[Lib.byteCells_length]; omega
 case c5=>have:=q.size; omega
 intro v' D d o _
 have i:D.heap[b]?=some (.cells #[.pointer (some ⟨b,0,none⟩),v] 81 (0,0)):=by
  rw[o.block b J (fun e=>A e.symm)];exact j
 have Z:D.cell? ⟨b,1,none⟩=some v:=by rw[Lib.cell_of_heap i]; rfl
 have f1:D.frozen? ⟨b,1,none⟩=false:=Lib.frozen_of_heap i 1
 obtain⟨H,P,I,rfl⟩:∃a n c,v'=.slice a n c:=by
  rcases d.2 with ⟨L,_⟩ | ⟨g,V,cur,L,_⟩
  ·exact⟨_,_,_,L⟩
  ·exact⟨_,_,_,L⟩
 have r:=aD (Lib.BuilderAt.put (T:=81) (e:=5) x i (bs':=Lib.byteCells l++Lib.strCells s) (v':=.slice H P I) (by simpa [Lib.strCells_length,K] using d) (by decide))
 have y:Lib.byteCells l++Lib.strCells s=Lib.byteCells (l++m):=by rw[G.out]; unfold Lib.byteCells; rw[List.map_append]
 rw[y] at r;have S:Hid (Below B w (D.setCell ⟨b,1,none⟩ (.slice H P I))):=(t.out.grown o (by have:=t.out.size; omega) (fun k W=>(f.lt k W).1)).setCell (p:=⟨b,1,none⟩) x _;have U:Hid (aY b w (D.setCell ⟨b,1,none⟩ (.slice H P I))):=(F.out.trans (aY.grown f o)).trans (aY.set b 1 _ _);clear d o i y f j q A;go_wp2
 go_ret2
 exact⟨rfl,.inr r.out,S.out,U.out⟩
end
section
open Classical Go.Deep Go.RowKit Go.Shelf
def dT (p:aK) (d:aF) (c:Nat):List UInt8:=[bX c]++[32]++lF p d++[10]
theorem gM {p:aK}{d:aF}(a:cJ p d):(lF p d).length<=500:=by
 have c:d.aH.length<=60:=by have g:=a.2.2.1; have h:p.aA<=60:=a.1.parts.1.1.2; omega
 have e:d.aC.length<=40:=by rw[a.2.2.2.1]; have:=a.1.parts.1.2.1; omega
 have f:d.aB.length<=100:=by rw[a.2.2.2.2.1]; have:=a.1.parts.1.2.2.1; omega
 have b:=vZ p d d.aC.length;unfold lF;rw[List.length_append,List.length_append,List.length_append,List.length_append,pV,Br];show _+1+_+1+_<=_;omega
def Kept (b:Nat) (w:World) (x:Nat):Prop:=∃cur t,w.heap[x]?=some (.cells cur t (0,0))∧t≠5∧x≠b
theorem Kept.same {b:Nat}{w w':World}(k:aY b w w'):Same (Kept b w) w w':=fun x e o=>by
 obtain⟨cur,t,a,c,d⟩:=e
 unfold World.cell?
 rw[show w'.heap[(⟨x,o,none⟩:Addr).block]?=w.heap[(⟨x,o,none⟩:Addr).block]? from (k.block x cur t a c d).trans a.symm]
theorem Kept.on {b:Nat}{w w':World}(k:aY b w w') {x:Nat}(h:Kept b w x):Kept b w' x:=by
 obtain⟨cur,t,d,a,c⟩:=h;exact⟨cur,t,k.block x cur t d a c,a,c⟩
theorem Kept.lt {b:Nat}{w:World}{x:Nat}(h:Kept b w x):x<w.heap.size:=by
 obtain⟨cur,t,a,-⟩:=h;exact (Array.getElem?_eq_some_iff.1 a).1
set_option maxRecDepth 100000 in
set_option maxHeartbeats 2000000 in
theorem lX (B b q:Nat) (l:List UInt8) (c:Nat) (p1 p2 p3 f1 f2 f3:Value) (p:aK) (d:aF) (w:World) (h:eN B b l w) (hl:l.length<=900000) (hB:B<=w.heap.size) (hc:c<10) (hq:q<B) (a1:w.rowIs q 27 5 fun i=>#[.int .i64 p.aA,p1,p2,p3,.int .i64 p.aI][i]!)
  (hp:aZ (fun c=>c<B) w p1 p2 p3 p) (Z:cE (fun c=>c<B) w p2 p.aB) (hf:bB (Kept b w) w f1 f2 f3 d) (hs:p.Small 1048576) (hd:d.Small 1048576) (hR:cJ p d) (a2:cF w) (a5 : 0<B) :
  Calls Tryz.prog 42 #[.agg #[.int .i64 (c:Int),.bool d.ok,f1,f2,f3],.pointer (some ⟨b,0,none⟩),.pointer (some ⟨q,0,none⟩)] w fun e w'=>rG B b (l++dT p d c) w e w':=by
 have a6:=h.lt;have a7:=gM hR;have H:=cZ w 42 #[.int .i64 (c:Int),.bool d.ok,f1,f2,f3];have a:=H.row 0 _ _ rfl;rw[Nat.add_zero] at a;have y0:=H.c 0 0 rfl rfl;rw[Nat.add_zero] at y0;have A:Below B w _:=H.below.mono hB;have x:eN B b l _:=h.call H.below;have D:aY b w _:=aY.aG H.below;obtain⟨W0,t⟩:∃W,W=w.alloc (.cells #[.int .i64 (c:Int),.bool d.ok,f1,f2,f3] 42):=⟨_,rfl⟩
 have a8:W0.heap.size=w.heap.size+1:=by rw[t]; simp
 rw[← t] at a A x D y0;have X:=aD (fG B b l [bX c] W0 x (by show _+1<=_; omega) (by omega));have KS:=aD fun (W:World) (k:Below B w W)=>a2.below k a5;have KP:=aD fun (W:World) (k:Below B w W) (z:B<=W.heap.size)=>And.intro (hp.keep (Q:=In W) (fW k fun _ z=>z) fun _ y=>Nat.lt_of_lt_of_le y z) (Z.keep (Q:=In W) (fW k fun _ z=>z) fun _ y=>Nat.lt_of_lt_of_le y z);have KF:=aD fun (W:World) (k:aY b w W)=>hf.keep (Q:=In W) (Kept.same k) fun _ y=>(Kept.on k y).lt;have KQ:=aD fun (W:World) (k:aY b w W)=>k.row a1 (by decide) (fun e=>by have:=h.lt; obtain z | z:=h <;> (have:=z.1; omega));have a4:=aD a;have I:=aD A;have O:=aD D;have HS:=aD hs;have HD:=aD hd;have HR:=aD hR;clear h hp Z hf hs hd hR a2 a1 H a A D x;go_enter Tryz.func42,Tryz.ntmps42
 go_upto_region 1 with fail
 rw[← t];clear t
 go_wp2_with fail
 refine (qC c hc W0).mono ?_;rintro e w1 ⟨rfl,rfl⟩
 go_wp2_with fail
 refine X.out.mono ?_;rintro e w2 ⟨rfl,m,n,f⟩;have C:Below B w w2:=I.out.trans n;have E:aY b w w2:=O.out.trans f;have a9:=E.size;have z:w2.cell? ⟨0,12,none⟩=some (.int .u8 32):=KS.out w2 C 12 32 rfl;have v:=aD (Bt B b (Lib.byteCells (l++[bX c])) 32 w2 m (by rw[Lib.byteCells_length,List.length_append]; show _+1<=_; omega) (by omega));rw[show Lib.byteCells (l++[bX c])++[.int .u8 32]=Lib.byteCells (l++[bX c]++[32]) from Bq _ 32] at v;have J:=aD C;have P:=aD E;have U:=aD f;clear m n f X C E I O y0
 go_wp2_with fail
 refine v.out.mono ?_;rintro e G ⟨rfl,m,n,f⟩;clear z;have u:Below B w G:=J.out.trans n;have r:aY b w G:=P.out.trans f;have aC:=r.size;have g:=KQ.out G r;have a:=(U.out.trans f).row a4.out (by decide) (by omega);have b0:=g.cell (i:=0) (by omega);have b1:=g.cell (i:=1) (by omega);have b2:=g.cell (i:=2) (by omega);have b3:=g.cell (i:=3) (by omega);have b4:=g.cell (i:=4) (by omega);have e1:=a.cell (i:=1) (by show 1<5; omega);have e2:=a.cell (i:=2) (by show 2<5; omega);have e3:=a.cell (i:=3) (by show 3<5; omega);have e4:=a.cell (i:=4) (by show 4<5; omega);have F:=KP.out G u (by omega);have V:=aD (nQ _ _ _ _ _ _ p d G F.1 F.2 (KF.out G r) HS.out HD.out HR.out (KS.out G u) (by omega));have N:=aD m;have K:=aD u;have R:=aD r;clear m n f v u r g a F J P U
 go_wp2_with fail
 refine V.out.mono ?_;rintro e w4 ⟨rfl,o⟩;clear b0 b1 b2 b3 b4 e1 e2 e3 e4;have aE:=o.size;have Y:=aD (fG B b (l++[bX c]++[32]) (lF p d) w4 (eN.call N.out o) (by rw[List.length_append,List.length_append]; show _+1+1+_<=_; omega) (by omega));have L:=aD (K.out.trans (o.mono (by omega)));have S:=aD (R.out.trans (aY.aG (b:=b) o));clear o V N K R
 go_wp2_with fail
 refine Y.out.mono ?_;rintro e w5 ⟨rfl,m,n,f⟩;have aH:=f.size;have s:=aD (Bt B b (Lib.byteCells (l++[bX c]++[32]++lF p d)) 10 w5 m (by rw[Lib.byteCells_length,List.length_append,List.length_append,List.length_append]; show _+1+1+_<=_; omega) (by omega));rw[show Lib.byteCells (l++[bX c]++[32]++lF p d)++[.int .u8 10]=Lib.byteCells (l++[bX c]++[32]++lF p d++[10]) from Bq _ 10] at s
 have a0:l++[bX c]++[32]++lF p d++[10]=l++dT p d c:=by unfold dT; simp
 rw[a0] at s;have M:=aD (L.out.trans n);have T:=aD (S.out.trans f);clear m n f Y a0 L S
 go_wp2_with fail
 refine s.out.mono ?_;rintro e w6 ⟨rfl,m,n,f⟩;have a3:=aD (show rG B b (l++dT p d c) w (.returned (.tuple #[])) w6 from ⟨rfl,m,M.out.trans n,T.out.trans f⟩);clear m n f s M T;go_wp2
 go_end0
 exact a3.out
theorem fR {b x t n:Nat}{f:Nat->Value}{W:World}(h:W.rowIs x t n f) (d:t≠5) (e:x≠b):Kept b W x:=by
 obtain⟨c,a,-⟩:=h;exact⟨c,t,a,d,e⟩
theorem aP.kept {P:Nat->Prop}{W:World}{v1 v2 v3:Value}{d:aF}{f g j b:Nat}{bb:Nat->Nat}(h:aP P W v1 v2 v3 d f g j bb) (e:∀c,P c->c≠b):aP (Kept b W) W v1 v2 v3 d f g j bb:=by
 refine⟨h.aH,h.aC,h.aB,?_,fun z=>?_,fun z=>?_,fun i hi=>?_,h.inj,h.off⟩
 ·obtain⟨_,_,a⟩:=h.aH.row;exact fR a (by decide) (e _ h.po)
 ·obtain⟨_,_,a⟩:=h.aC.row z;exact fR a (by decide) (e _ (h.pp z))
 ·obtain⟨_,_,a⟩:=h.aB.row z;exact fR a (by decide) (e _ (h.pw z))
 ·obtain⟨_,_,a⟩:=h.aB.aL hi;exact fR a (by decide) (e _ (h.pb i hi))
theorem eX.kept {w w':World}{v:Value}{l:List (Int×aF)}{b:Nat}(h:eX w w' v l) (I:b<w.heap.size):fK (Kept b w') w' v l:=by
 obtain⟨xs,lo,d,y,-,m,-⟩:=h;rcases Nat.eq_zero_or_pos l.length with z | z
 ·obtain⟨a,c,rfl⟩:=zag d;exact⟨a,c,rfl,.inl z⟩
 ·obtain⟨g,n,f,rfl,J,j,H,k⟩:=zdt d z;refine⟨_,n,rfl,.inr ⟨g,0,rfl,fR j (by decide) (by omega),fun i hi x A=>?_⟩⟩;obtain⟨B,C,D,E,F,G,bb,o,p,q,r,s,t⟩:=y i x A;refine⟨B,C,D,(t.kept fun c u e=>by have:=m i; have:=u.1; omega).read,?_⟩;rw[Nat.zero_add,j.cell (by omega),j.cell (by omega),j.cell (by omega),j.cell (by omega),j.cell (by omega),k _ _ o,k _ _ p,k _ _ q,k _ _ r,k _ _ s];exact⟨rfl,rfl,rfl,rfl,rfl⟩
end
section
open Classical Go.Deep Go.RowKit
set_option maxRecDepth 100000 in
set_option maxHeartbeats 2000000 in
theorem Jw (b:Nat) (w:World) (a:w.cell? ⟨b,1,none⟩=some (.slice none 0 0)) :
  Calls Tryz.prog 47 #[.pointer (some ⟨b,0,none⟩)] w fun e w'=>e=.returned (.string ⟨#[]⟩)∧Below w.heap.size w w':=by
 have d:∀(W:World) (q:Option Addr),(Builtin.unsafeString_ #[130,3] 9 #[.pointer q,.int .i64 0]).run Tryz.prog W=.ok (.string .empty) W:=fun W q=>Lib.run_unsafeString_none W _ _ _ q;have c:∀W:World,(Builtin.unsafeSliceData_ #[22] 130 #[.slice none 0 0]).run Tryz.prog W=.ok (.pointer none) W:=fun _=>rfl;have f:w.drew.cell? ⟨b,1,none⟩=some (.slice none 0 0):=a;go_enter Tryz.func47,Tryz.ntmps47;go_wp2
 go_region
 all_goals (go_wp2; go_ret; exact⟨rfl,cT w⟩)
end
section
open Classical Go.Deep Go.RowKit Go.Shelf
def bW (p:aK) (l:List (Int×aF)) (k:Nat):List UInt8:=(l.take k).flatMap fun x=>dT p x.2 x.1.toNat
theorem eD {p:aK}{l:List (Int×aF)}{k:Nat}{x:Int×aF}(h:l[k]?=some x):bW p l (k+1)=bW p l k++dT p x.2 x.1.toNat:=by
 unfold bW;rw[List.take_add_one,h,List.flatMap_append];simp
def pW (p:aK) (l:List (Int×aF)):Prop:=∀(k:Nat) x,l[k]?=some x->0<=x.1∧x.1<10∧cJ p x.2∧x.2.Small 1048576
theorem kH {p:aK}{d:aF}(a:cJ p d) (c:Nat):(dT p d c).length<=503:=by
 have:=gM a;unfold dT;rw[List.length_append,List.length_append];show 1+1+_+1<=_;omega
theorem gL {p:aK}{l:List (Int×aF)}(h:pW p l):∀k,k<=l.length->(bW p l k).length<=503*k
 | 0,_=>Nat.le_refl _
 | k+1,hk=>by
  obtain⟨x,a⟩:=eU l (show k<l.length by omega)
  rw[eD a,List.length_append]
  have:=gL h k (by omega)
  have:=kH (h k x a).2.2.1 x.1.toNat
  omega
set_option maxRecDepth 100000 in
set_option maxHeartbeats 4000000 in
theorem oQ (p1 p2 p3 ve:Value) (p:aK) (B:List (Int×Int×Int)) (w:World) (L:aZ (In w) w p1 p2 p3 p) (K:cE (In w) w p2 p.aB) (I:pL (In w) w ve B) (hs:p.Small 1048576) (aN:B.length<=1048576) (hg:w.cell? ⟨1,0,none⟩=some rF) (a6:cF w) (aP : 0<w.heap.size)
  (hL:pW p (iZ p B)) (hn:(iZ p B).length<=1000) (h0:iZ p B≠[]) :
  Calls Tryz.prog 16 #[.agg #[.int .i64 p.aA,p1,p2,p3,.int .i64 p.aI],ve] w fun e w'=>e=.returned (.string (tx (bW p (iZ p B) (iZ p B).length)))∧Below w.heap.size w w':=by
 obtain⟨a1,c1,rfl⟩:=L.1.size;obtain⟨a2,c2,rfl⟩:=L.2.1.size;obtain⟨a3,c3,rfl⟩:=L.2.2.size;obtain⟨ae,ce,rfl⟩:=I.size;have a:=eB w 27 81 #[.int .i64 p.aA,.slice a1 p.aE.length c1,.slice a2 p.aB.length c2,.slice a3 p.aO.length c3,.int .i64 p.aI] #[.pointer none,.slice none 0 0];have E:=Lib.fresh_isBuilder 81 5 (w.alloc (.cells #[.int .i64 p.aA,.slice a1 p.aE.length c1,.slice a2 p.aB.length c2,.slice a3 p.aO.length c3,.int .i64 p.aI] 27))
 have a5:(w.alloc (.cells #[.int .i64 p.aA,.slice a1 p.aE.length c1,.slice a2 p.aB.length c2,.slice a3 p.aO.length c3,.int .i64 p.aI] 27)).heap.size=w.heap.size+1:=by simp
 rw[a5] at E;have g:=aD (zU _ _ _ _ p B _ (L.keep (In.keep a.below).1 (In.keep a.below).2) (K.keep (In.keep a.below).1 (In.keep a.below).2) (I.keep (In.keep a.below).1 (In.keep a.below).2) hs aN (ck hg a.below));obtain⟨A,C⟩:∃W,W=(w.alloc (.cells #[.int .i64 p.aA,.slice a1 p.aE.length c1,.slice a2 p.aB.length c2,.slice a3 p.aO.length c3,.int .i64 p.aI] 27)).alloc (.cells #[.pointer none,.slice none 0 0] 81):=⟨_,rfl⟩
 have aV:A.heap.size=w.heap.size+2:=by rw[C]; simp
 rw[← C] at a E g;have J:=a.row 0 _ _ rfl;rw[Nat.add_zero] at J;have b0:=a.c 0 0 rfl rfl;have b1:=a.c 0 1 rfl rfl;have b2:=a.c 0 2 rfl rfl;have b3:=a.c 0 3 rfl rfl;have b4:=a.c 0 4 rfl rfl;rw[Nat.add_zero] at b0 b1 b2 b3 b4;have aL:=a.below;have KB:=aD fun (W:World) (k:Below (w.heap.size+1) A W)=>aL.trans (k.mono (show w.heap.size<=w.heap.size+1 by omega));have KP:=aD fun (W:World) (k:Below (w.heap.size+1) A W)=>L.keep (Q:=fun c=>c<w.heap.size+1) (In.keep (KB.out W k)).1 fun c hc=>Nat.lt_of_lt_of_le (show c<w.heap.size from hc) (by omega);have KC:=aD fun (W:World) (k:Below (w.heap.size+1) A W)=>K.keep (Q:=fun c=>c<w.heap.size+1) (In.keep (KB.out W k)).1 fun c hc=>Nat.lt_of_lt_of_le (show c<w.heap.size from hc) (by omega);have KS:=aD fun (W:World) (k:Below (w.heap.size+1) A W)=>a6.below (KB.out W k) aP;have aF:=aD J;have HS:=aD hs;obtain⟨l,hl⟩:∃l,l=iZ p B:=⟨_,rfl⟩;rw[← hl] at g hL hn h0 ⊢;obtain⟨n,m⟩:∃n,n=l.length:=⟨_,rfl⟩;rw[← m] at hn ⊢;have HL:=aD hL;have d:=aD m;have H0:=aD h0;have S:=aD E;clear a L K I hg hs a6 J E hL hl m h0 a5;go_enter Tryz.func16,Tryz.ntmps16
 go_upto_region 3 with fail
 rw[← C];clear C
 go_wp2_with fail
 refine g.out.mono ?_;rintro e w2 ⟨v,rfl,o,Z⟩;have Y:=Z.kept (b:=w.heap.size+1) (by omega);have F:eN (w.heap.size+1) (w.heap.size+1) [] w2:=eN.call (show eN (w.heap.size+1) (w.heap.size+1) [] A from S.out) o;have R:=aD fun (W:World) (k:aY (w.heap.size+1) w2 W)=>Y.keep (Q:=Kept (w.heap.size+1) W) (Kept.same k) fun _ z=>Kept.on k z;have N:=aD (o.mono (show w.heap.size+1<=A.heap.size by omega));have a8:=aD (aY.aG (b:=w.heap.size+1) o);have aW:=o.size;obtain⟨av,cv,rfl,-⟩:=Y;have m:=d.out;rw[← m] at R ⊢;have P:=aD F;clear b0 b1 b2 b3 b4 o Z F g S m;go_wp2
 go_loopw [14] (fun z wr=>∃k:Nat,k<=n∧z=.int .i64 (k:Int)∧eN (w.heap.size+1) (w.heap.size+1) (bW p l k) wr∧Below (w.heap.size+1) A wr∧aY (w.heap.size+1) w2 wr) (fun z _=>n-(intOf z).toNat)
 case atStart=>exact⟨0,Nat.zero_le _,rfl,P.out,N.out,aY.refl _ _⟩
 case round=>
  obtain⟨k,hk,rfl,r,D,h⟩:=hrel;rename World=>wr;clear P N;have aX:=h.size;by_cases aU:k<n
  ·have a0:decide ((k:Int)<(n:Int))=true:=decide_eq_true (by omega)
   have aT:(k:Int)<(n:Int):=by omega
   obtain⟨x,M⟩:=eU l (show k<l.length by have:=d.out; omega);obtain⟨ax,kx,ex,h0 | ⟨bq,oq,V,aR,X⟩⟩:=R.out wr h
   ·have:=d.out; omega
   obtain rfl:av=some ⟨bq,oq,none⟩:=by cases ex; exact V
   clear ex V;obtain⟨u1,u2,u3,s,y0,y1,y2,y3,y4⟩:=X k (by have:=d.out; omega) x M;obtain⟨r1,r2,r3,r4⟩:=HL.out k x M;obtain⟨cn,aM⟩:∃c:Nat,x.1=(c:Int):=⟨x.1.toNat,by omega⟩;have aQ:=gL HL.out k (by have:=d.out; omega);have f:=eD (p:=p) M;rw[show x.1.toNat=cn by omega] at f;rw[aM] at y0;obtain⟨o1,m1,rfl⟩:=s.1.size;obtain⟨o2,m2,rfl⟩:=s.2.1.size;obtain⟨o3,m3,rfl⟩:=s.2.2.size;have y:=cZ wr 42 #[.int .i64 (cn:Int),.bool x.2.ok,.slice o1 x.2.aH.length m1,.slice o2 x.2.aC.length m2,.slice o3 x.2.aB.length m3];have d0:=y.c 0 0 rfl rfl;have d1:=y.c 0 1 rfl rfl;have d2:=y.c 0 2 rfl rfl;have d3:=y.c 0 3 rfl rfl;have d4:=y.c 0 4 rfl rfl;rw[Nat.add_zero] at d0 d1 d2 d3 d4;have u:aY (w.heap.size+1) wr _:=aY.aG y.below;have q:=D.trans (y.below.mono (show w.heap.size+1<=wr.heap.size by omega));have H:=aD (lX (w.heap.size+1) (w.heap.size+1) w.heap.size (bW p l k) cn _ _ _ _ _ _ p x.2 _ (eN.call r y.below) (by omega) (by have:=y.below.size; omega) (by omega) (by omega) (((a8.out.trans h).trans u).row aF.out (by decide) (by omega)) (KP.out _ q) (KC.out _ q) (s.keep (Kept.same u) fun _ z=>Kept.on u z) HS.out r4 r3 (KS.out _ q) (by omega));rw[← f] at H;have a7:=aD q;have a9:=aD (h.trans u);clear r D h X s M f r1 r2 r3 r4 y u q
   go_wp2_with fail
   refine H.out.mono ?_;rintro e w5 ⟨rfl,U,g2,g3⟩;have G:=aD (show eN (w.heap.size+1) (w.heap.size+1) (bW p l (k+1)) w5∧Below (w.heap.size+1) A w5∧aY (w.heap.size+1) w2 w5 from ⟨U,a7.out.trans g2,a9.out.trans g3⟩);clear U g2 g3 H y0 y1 y2 y3 y4 d0 d1 d2 d3 d4;go_wp2;go_roundw
   case rel=>exact⟨k+1,by omega,by go_num,G.out⟩
   case measure=>simp[intOf]; omega
  ·have a0:decide ((k:Int)<(n:Int))=false:=decide_eq_false (by omega)
   obtain rfl:k=n:=by omega
   obtain⟨t,ht⟩:∃t,t=bW p l k:=⟨_,rfl⟩;rw[← ht] at r
   have a4:t≠[]:=by
    have aS:k≠0:=fun e=>H0.out (List.length_eq_zero_iff.1 (by have:=d.out; omega));obtain⟨x,M⟩:=eU l (show k-1<l.length by have:=d.out; omega);rw[ht,show k=k-1+1 by omega,eD M];intro e;have:=congrArg List.length e;unfold dT at this;rw[List.length_append,List.length_append] at this;change _+(_+1)=0 at this;omega
   have T:=aD (Ev (w.heap.size+1) (w.heap.size+1) t wr r a4);have aJ:=aD ht;have O:=aD D;clear r D h ht a4
   go_wp2_with fail
   refine T.out.mono ?_;rintro e w8 ⟨rfl,U⟩;have G:=aD (KB.out w8 (O.out.trans U));clear U T O;go_wp2;go_ret;exact⟨AA aJ.out,G.out⟩
end
section
open Classical Go.Deep Go.RowKit
set_option maxRecDepth 100000 in
set_option maxHeartbeats 2000000 in
theorem jY (F r G I:Value) (p:aK) (n:List (Int×Int×Int)) (w:World) (l:aZ (In w) w F r G p) (m:cE (In w) w r p.aB) (f:pL (In w) w I n) (Q:p.Small 1048576) (q:n.length<=1048576) (D:w.cell? ⟨1,0,none⟩=some rF) (E:iZ p n=[]) :
  Calls Tryz.prog 16 #[.agg #[.int .i64 p.aA,F,r,G,.int .i64 p.aI],I] w fun e w'=>e=.returned (.string ⟨#[]⟩)∧Below w.heap.size w w':=by
 obtain⟨K,N,rfl⟩:=l.1.size;obtain⟨L,O,rfl⟩:=l.2.1.size;obtain⟨M,P,rfl⟩:=l.2.2.size;obtain⟨T,V,rfl⟩:=f.size;have a:=eB w 27 81 #[.int .i64 p.aA,.slice K p.aE.length N,.slice L p.aB.length O,.slice M p.aO.length P,.int .i64 p.aI] #[.pointer none,.slice none 0 0];have b:=aD (zU _ _ _ _ p n _ (l.keep (In.keep a.below).1 (In.keep a.below).2) (m.keep (In.keep a.below).1 (In.keep a.below).2) (f.keep (In.keep a.below).1 (In.keep a.below).2) Q q (ck D a.below));have t:=a.c 0 0 rfl rfl;have u:=a.c 0 1 rfl rfl;have x:=a.c 0 2 rfl rfl;have y:=a.c 0 3 rfl rfl;have A:=a.c 0 4 rfl rfl;rw[Nat.add_zero] at t u x y A;have s:=aD a;clear a l m f D;go_enter Tryz.func16,Tryz.ntmps16
 go_wp2_with fail
 refine b.out.mono ?_;rintro e J ⟨v,rfl,B,C⟩;rw[E] at C;obtain⟨xs,S,c,-⟩:=C;obtain⟨U,W,rfl⟩:=zag c;have d:=s.out.call B;have H:=d.c 1 1 rfl rfl;have h:=aD d;have g:=aD (Jw (w.heap.size+1) J H);clear t u x y A B c E d H b s;go_wp2
 go_loopw [14] (fun z wr=>z=.int .i64 0∧wr=J) (fun _ _=>0)
 case atStart=>exact⟨rfl,rfl⟩
 case round=>
  obtain⟨rfl,R⟩:=hrel;subst R
  go_wp2_with fail
  refine g.out.mono ?_;rintro e X ⟨rfl,k⟩;have o:=aD (h.out.call k).below;clear k g h;go_wp2;go_ret;exact⟨rfl,o.out⟩
def cL (c:Int):Prop:=0<=c∧c<10
theorem qV (ih:Bool) (b c:Nat) (a d:Bool):cL (pT ih b c a d):=by
 unfold pT cL
 repeat' split
 all_goals omega
theorem qA (p:aK) (d:aF) (i:Nat) (x:aT) (h:aM):cL (oN p d i x h).1:=by
 unfold oN;split
 ·show cL 0; unfold cL; omega
 ·exact qV _ _ _ _ _
theorem oS (p:aK) (d:aF) (i:Nat) (x:aT) (h:aM):cL (jP p d i x h).1:=by
 unfold jP;split
 ·show cL 0; unfold cL; omega
 ·show cL 2; unfold cL; omega
theorem oY (p:aK) (d:aF) (q:Nat) (a:Int):cL (mW p d q a).1:=by
 unfold mW;split
 ·show cL 2; unfold cL; omega
 ·split
  ·show cL 3; unfold cL; omega
  ·show cL 0; unfold cL; omega
theorem rW (p:aK) (d:aF) (b of a:Int):cL (cO p d b of a).1:=by
 have z:cL 0:=by unfold cL; omega
 unfold cO;split
 ·split
  ·exact qA _ _ _ _ _
  ·exact z
 split
 ·split
  ·exact oS _ _ _ _ _
  ·exact z
 split
 ·exact z
 split
 ·exact z
 split
 ·exact z
 split
 ·exact oY _ _ _ _
 ·exact z
theorem pC (p:aK) (f:aF) (e:Int×Int×Int):cL (jW p f e).1:=by
 unfold jW;split
 ·exact rW _ _ _ _ _
 ·show cL 1; unfold cL; omega
theorem kI (p:aK) (b:List (Int×Int×Int)):pW p (iZ p b):=by
 unfold iZ;split
 ·rename_i g
  intro k x a
  have hi:k<b.length:=by
   have:=(List.getElem?_eq_some_iff.1 a).1;rw[zT] at this;exact this
  obtain⟨e,-,f⟩:=Ed (p:=p) hi;have d:=pC p (zD p b k) e;rw[f] at a;have c:cJ p x.2:=Ee g.1 (f.trans a)
  cases a
  exact⟨d.1,d.2,c,oH c⟩
 ·intro k x a
  cases a
theorem kJ (p:aK) (a:List (Int×Int×Int)):(iZ p a).length<=1000:=by
 unfold iZ;split
 ·rename_i b
  rw[zT];exact b.2
 ·exact Nat.zero_le _
def iX (p:aK) (es:List (Int×Int×Int)) [Decidable (Right p∧es.length<=1000)]:List UInt8:=bW p (iZ p es) (iZ p es).length
theorem jG (g f h i:Value) (p:aK) (a:List (Int×Int×Int)) (w:World) (n:aZ (In w) w g f h p) (d:cE (In w) w f p.aB) (c:pL (In w) w i a) (o:p.Small 1048576) (b:a.length<=1048576) (m:w.cell? ⟨1,0,none⟩=some rF) (l:cF w) (k : 0<w.heap.size) :
  Calls Tryz.prog 16 #[.agg #[.int .i64 p.aA,g,f,h,.int .i64 p.aI],i] w fun e w'=>e=.returned (.string (tx (iX p a)))∧Below w.heap.size w w':=by
 by_cases j:iZ p a=[]
 ·refine (jY g f h i p a w n d c o b m j).mono fun e w' ⟨h1,h2⟩=>⟨?_,h2⟩;rw[h1];unfold iX;rw[j];rfl
 ·exact oQ g f h i p a w n d c o b m l k (kI p a) (kJ p a) j
theorem nB {W:World}{B:Nat}{v:Value}{m:List UInt8}(h:W.ownsRow B 5 1 v m.length (Lib.byteCells m)):(convert 22 9 v).run Tryz.prog W=.ok (.string (tx m)) W:=by
 rcases Nat.eq_zero_or_pos m.length with z | z
 ·obtain rfl:=List.length_eq_zero_iff.1 z;obtain⟨-,⟨rfl,-⟩ | ⟨g,a,cur,rfl,-⟩⟩:=h
  ·exact run_convert_bytes_nil (w:=W) 22 5 Tryz.underlying22 Tryz.underlying5 _ _ 9 Tryz.underlying9
  ·exact run_convert_bytes_back W 22 9 5 ⟨g,0,none⟩ a [] Tryz.underlying22 Tryz.underlying5 Tryz.underlying9 fun j b=>by cases b
 ·obtain⟨g,a,f,rfl,-,d,e,c⟩:=zdt h z;refine run_convert_bytes_back W 22 9 5 ⟨g,0,none⟩ a m Tryz.underlying22 Tryz.underlying5 Tryz.underlying9 fun j b=>?_;rw[show (⟨g,0,none⟩:Addr).add j=⟨g,j,none⟩ by simp[Addr.add]; omega,d.cell (by omega),c j _ (by unfold Lib.byteCells; rw[List.getElem?_map,List.getElem?_eq_getElem b]; rfl)]
set_option maxRecDepth 100000 in
set_option maxHeartbeats 4000000 in
theorem jK (p1 p2 p3 ve:Value) (p:aK) (Z:List (Int×Int×Int)) (w:World) (hp:aZ (In w) w p1 p2 p3 p) (a0:pL (In w) w ve Z) (hs:p.Small 1048576) (b7:Z.length<=1048576) :
  Calls Tryz.prog 17 #[.agg #[.int .i64 p.aA,p1,p2,p3,.int .i64 p.aI],ve] w fun e w'=>e=.returned (.string (tx (iX p Z)))∧Below w.heap.size w w':=by
 obtain⟨i0,hi,b8,b9,bA⟩:=info_parts Tryz.Builder_Extra_169.infoByte;obtain⟨a1,c1,rfl⟩:=hp.1.size;obtain⟨a2,c2,rfl⟩:=hp.2.1.size;obtain⟨a3,c3,rfl⟩:=hp.2.2.size;obtain⟨ae,ce,rfl⟩:=a0.size;have C:=cZ w 27 #[.int .i64 p.aA,.slice a1 p.aE.length c1,.slice a2 p.aB.length c2,.slice a3 p.aO.length c3,.int .i64 p.aI];have B:=aD (Es _ _ _ _ p Z _ (hp.keep (In.keep C.below).1 (In.keep C.below).2) (a0.keep (In.keep C.below).1 (In.keep C.below).2) hs b7);have KP:=aD fun (W:World) (h:Below w.heap.size w W)=>hp.keep (Q:=In W) (In.keep h).1 (In.keep h).2;have H:=C.c 0 0 rfl rfl;have I:=C.c 0 1 rfl rfl;have J:=C.c 0 2 rfl rfl;have L:=C.c 0 3 rfl rfl;have M:=C.c 0 4 rfl rfl;rw[Nat.add_zero] at H I J L M;have hL:=kI p Z;have hn:=kJ p Z;unfold iX;obtain⟨l,hl⟩:∃l,l=iZ p Z:=⟨_,rfl⟩;rw[← hl] at B hL hn ⊢;obtain⟨n,u⟩:∃n,n=l.length:=⟨_,rfl⟩;rw[← u] at hn ⊢;have HL:=aD hL;have A:=aD u;have HS:=aD hs;have HT:=aD C;clear C hp a0 hs hL hl u;go_enter Tryz.func17,Tryz.ntmps17
 go_wp2_with fail
 refine B.out.mono ?_;rintro e r ⟨v,rfl,a9,aM⟩;have aL:=aM.read.keep (hU _ _) (Q:=fun c=>c<r.heap.size) fun _ z=>z.2;have a4:=aD fun (W:World) (k:Below r.heap.size r W)=>aL.keep (Q:=fun c=>c<r.heap.size) (fW k fun _ z=>z) fun _ z=>z;have T2:=HT.out.call a9;have a7:=aD T2;obtain⟨av,cv,rfl,-⟩:=aL;have u:=A.out;rw[← u] at a4 ⊢;clear H I J L M a9 aM B HT u T2;go_wp2
 go_loopw [5,13] (fun v z wr=>∃k:Nat,k<=n∧z=.int .i64 (k:Int)∧wr.ownsRow r.heap.size 5 1 v (bW p l k).length (Lib.byteCells (bW p l k))∧Below r.heap.size r wr) (fun _ z _=>n-(intOf z).toNat)
 case atStart=>exact⟨0,Nat.zero_le _,rfl,World.ownsRow_nil _ _ _ _,Below.refl _ _⟩
 case round=>
  obtain⟨k,hk,rfl,f,g⟩:=hrel;rename World=>wr;by_cases bH:k<n
  ·have aP:decide ((k:Int)<(n:Int))=true:=decide_eq_true (by omega)
   have bE:(k:Int)<(n:Int):=by omega
   obtain⟨x,hx⟩:=eU l (show k<l.length by have:=A.out; omega);obtain⟨ax,kx,ex,h0 | ⟨bq,oq,a8,bC,aJ⟩⟩:=a4.out wr g
   ·have:=A.out; omega
   obtain rfl:av=some ⟨bq,oq,none⟩:=by cases ex; exact a8
   clear ex a8;obtain⟨u1,u2,u3,E,y0,y1,y2,y3,y4⟩:=aJ k (by have:=A.out; omega) x hx;obtain⟨r1,r2,r3,r4⟩:=HL.out k x hx;obtain⟨d,b6⟩:∃c:Nat,x.1=(c:Int):=⟨x.1.toNat,by omega⟩;have bB:=gL HL.out k (by have:=A.out; omega);have bG:=kH r3 d;have q:=eD (p:=p) hx;rw[show x.1.toNat=d by omega] at q;rw[b6] at y0;obtain⟨o1,m1,rfl⟩:=E.1.size;obtain⟨o2,m2,rfl⟩:=E.2.1.size;obtain⟨o3,m3,rfl⟩:=E.2.2.size
   have aF:d<10:=by omega
   have bI:=gM r3;have s:=cZ wr 42 #[.int .i64 (d:Int),.bool x.2.ok,.slice o1 x.2.aH.length m1,.slice o2 x.2.aC.length m2,.slice o3 x.2.aB.length m3];have hwb:=g.size;obtain⟨G,O⟩:∃W,W=wr.alloc (.cells #[.int .i64 (d:Int),.bool x.2.ok,.slice o1 x.2.aH.length m1,.slice o2 x.2.aC.length m2,.slice o3 x.2.aB.length m3] 42):=⟨_,rfl⟩
   have F:G.ownsRow r.heap.size 5 1 u5 (bW p l k).length (Lib.byteCells (bW p l k)):=by rw[O]; exact f.alloc _
   rw[← O] at s;have N:=(a7.out.call g).call (show Below wr.heap.size wr G from s.below);have aS:=s.below.size;have KK:=aD fun (W:World) (h:Below G.heap.size G W)=>And.intro (KP.out W (N.call h).below) (E.keep (Q:=In W) (fW (s.below.trans (h.mono aS)) fun c z=>Nat.lt_of_lt_of_le (show c<r.heap.size from z) hwb) fun c z=>Nat.lt_of_lt_of_le (Nat.lt_of_lt_of_le (show c<r.heap.size from z) hwb) (Nat.le_trans aS h.size));have b:=aD fun (W:World) (h:Below G.heap.size G W)=>And.intro (N.call h) (s.call h);have a:=aD (cT G);have a6:=aD F;have aV:=aD r3;have aU:=aD (g.trans (s.below.mono hwb));clear aJ E hx r1 r2 r3 r4 f g F
   go_upto_region 5 with fail
   rw[← O];clear O y0 y1 y2 y3 y4
   have s1:¬ 9223372036854775807<(tx [bX d]).size+1:=by rw[mQ]; show ¬_<1+1; omega
   have s2:¬ 9223372036854775807<(tx [bX d]).size+1+(tx (lF p x.2)).size:=by rw[mQ,mQ]; show ¬_<1+1+_; omega
   have s3:¬ 9223372036854775807<(tx [bX d]).size+1+(tx (lF p x.2)).size+1:=by rw[mQ,mQ]; show ¬_<1+1+_+1; omega
   go_cut [8] (fun v wc=>v=.string (tx (dT p x.2 d))∧Below G.heap.size G wc)
   case first=>
    have H:=N.c 0 0 rfl rfl;have T:=s.c 0 0 rfl rfl;have I:=N.c 0 1 rfl rfl;have U:=s.c 0 1 rfl rfl;have J:=N.c 0 2 rfl rfl;have V:=s.c 0 2 rfl rfl;have L:=N.c 0 3 rfl rfl;have X:=s.c 0 3 rfl rfl;have M:=N.c 0 4 rfl rfl;have Y:=s.c 0 4 rfl rfl;rw[Nat.add_zero] at H T I U J V L X M Y;clear N s
    go_region_with (first | (go_at_call 48; refine (kA d aF _).mono ?_; rintro e w3 ⟨rfl,D⟩; have y:=aD (a.out.trans (D.mono a.out.size)); clear a H T I U J V L X M Y; have a:=y; clear y D; have H:=(b.out _ a.out).1.c 0 0 rfl rfl; have T:=(b.out _ a.out).2.c 0 0 rfl rfl; have I:=(b.out _ a.out).1.c 0 1 rfl rfl; have U:=(b.out _ a.out).2.c 0 1 rfl rfl; have J:=(b.out _ a.out).1.c 0 2 rfl rfl; have V:=(b.out _ a.out).2.c 0 2 rfl rfl; have L:=(b.out _ a.out).1.c 0 3 rfl rfl; have X:=(b.out _ a.out).2.c 0 3 rfl rfl; have M:=(b.out _ a.out).1.c 0 4 rfl rfl; have Y:=(b.out _ a.out).2.c 0 4 rfl rfl; rw[Nat.add_zero] at H T I U J V L X M Y) | (go_at_call 49; refine (KM _ _ _ _ _ _ p x.2 _ (KK.out _ a.out).1 (KK.out _ a.out).2 HS.out aV.out).mono ?_; rintro e w3 ⟨rfl,D⟩; have y:=aD (a.out.trans (D.mono a.out.size)); clear a H T I U J V L X M Y; have a:=y; clear y D; have H:=(b.out _ a.out).1.c 0 0 rfl rfl; have T:=(b.out _ a.out).2.c 0 0 rfl rfl; have I:=(b.out _ a.out).1.c 0 1 rfl rfl; have U:=(b.out _ a.out).2.c 0 1 rfl rfl; have J:=(b.out _ a.out).1.c 0 2 rfl rfl; have V:=(b.out _ a.out).2.c 0 2 rfl rfl; have L:=(b.out _ a.out).1.c 0 3 rfl rfl; have X:=(b.out _ a.out).2.c 0 3 rfl rfl; have M:=(b.out _ a.out).1.c 0 4 rfl rfl; have Y:=(b.out _ a.out).2.c 0 4 rfl rfl; rw[Nat.add_zero] at H T I U J V L X M Y))
    all_goals
     go_wp2_with fail
     go_meet;refine⟨?_,a.out⟩
     first
     | (show Value.string (tx [bX d]++tx [32]++tx (lF p x.2)++tx [10])=_; rw[oO,oO,oO]; rfl)
     | (show Value.string (tx [bX d]++(tx [32]++(tx (lF p x.2)++tx [10])))=_; rw[oO,oO,oO]; unfold dT; simp)
   case rest=>
    obtain⟨rfl,P⟩:=hcut;have o:=gD (K:=fun _=>True) a6.out (But.aG P) fun _ _=>trivial;have bJ:=P.size;obtain⟨t,R⟩:∃t,t=tx (dT p x.2 d):=⟨_,rfl⟩;rw[← R]
    have aR:t.size=(dT p x.2 d).length:=by rw[R,mQ]
    have aQ:Lib.strCells t=Lib.byteCells (dT p x.2 d):=by rw[R]; rfl
    have aT:=aD (aU.out.trans (P.mono (show r.heap.size<=G.heap.size by omega)));have aX:=aD aQ;have aY:=aD aR;have aW:=aD q
    have bF:(bW p l k).length+t.size<=1000000000:=by omega
    clear N s R aQ aR q s1 s2 s3 P a
    go_wp2_with (at_builtin; refine Lib.wpList_append_own_string _ rfl _ _ 22 9 rfl r.heap.size 5 i0 Tryz.underlying22 Tryz.underlying9 hi b8 b9 bA _ _ _ rfl o t rfl ?c3 ?c4 ?c5 ?_)
    case c3=>unfold maxLen; omega
    case c4=>omega
    case c5=>omega
    intro v6 w6 m aN _;rw[aY.out,aX.out] at m
    have S:Hid (w6.ownsRow r.heap.size 5 1 v6 (bW p l (k+1)).length (Lib.byteCells (bW p l (k+1)))∧Below r.heap.size r w6):=by
     refine⟨?_,aT.out.grown aN (by omega) fun k hk=>(o.lt k hk).1⟩;rw[aW.out,List.length_append,show Lib.byteCells (bW p l k++dT p x.2 d)=Lib.byteCells (bW p l k)++Lib.byteCells (dT p x.2 d) by unfold Lib.byteCells; rw[List.map_append]];exact m
    clear m aN o;go_wp2;go_roundw
    case rel=>exact⟨k+1,by omega,by go_num,S.out⟩
    case measure=>simp[intOf]; omega
  ·have aP:decide ((k:Int)<(n:Int))=false:=decide_eq_false (by omega)
   obtain rfl:k=n:=by omega
   obtain⟨a5,c5,rfl⟩:=zag f;have S:=aD (a7.out.call g).below;obtain⟨t,R⟩:∃t,t=bW p l k:=⟨_,rfl⟩
   have bD:(convert 22 9 (.slice a5 (bW p l k).length c5)).run Tryz.prog wr=.ok (.string (tx t)) wr:=by rw[R]; exact nB f
   have b5:=aD R;clear f g R;go_wp2;go_ret;exact⟨AA b5.out,S.out⟩
end
end Go.Proofs.YtdhinkgjiapigaaGreatDoor
