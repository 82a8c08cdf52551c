import Derived.Test.YtdhinkgjiapigaaGreatDoorDqD
namespace Go.Proofs.YtdhinkgjiapigaaGreatDoor
open Classical Go.Deep Go.RowKit
set_option maxRecDepth 100000 in
set_option maxHeartbeats 16000000 in
theorem lR (D:Src) (R K jj:Nat) (w:World) (hc:eW w R ⟨K,jj,D⟩) (hK:K<=1000) :
  Calls Tryz.prog 35 #[.pointer (some ⟨R,0,none⟩)] w fun e w'=>∃v1 v2 v3 p,e=.returned (.agg #[.int .i64 p.aA,v1,v2,v3,.int .i64 p.aI])∧Right p∧aZ (fun c=>w.heap.size<=c∧c<w'.heap.size) w' v1 v2 v3 p∧cE (fun c=>w.heap.size<=c∧c<w'.heap.size) w' v2 p.aB∧∃j,eW w' R ⟨K+1000,j,D⟩∧But (fun c=>c≠R) w w'∧lM D jj p j:=by
 have hcb:=hc.lt;have hb0:=bC w (.cells #[.int .i64 0,.slice none 0 0,.slice none 0 0,.slice none 0 0,.int .i64 0] 27);have hr0:(w.alloc (.cells #[.int .i64 0,.slice none 0 0,.slice none 0 0,.slice none 0 0,.int .i64 0] 27)).rowIs w.heap.size 27 5 (fun i=>(#[.int .i64 0,.slice none 0 0,.slice none 0 0,.slice none 0 0,.int .i64 0]:Array Value)[i]!):=dH w 27 #[.int .i64 0,.slice none 0 0,.slice none 0 0,.slice none 0 0,.int .i64 0];have hc0:=hc.but (Q:=fun _=>True) (But.aG hb0) fun _ _=>trivial;go_enter Tryz.func35,Tryz.ntmps35
 go_wp2_with fail
 refine (bA D R K jj 6 _ hc0 (by omega) (by omega)).mono ?_;rintro e w1 ⟨x,rfl,hx,j1,hc1,fL,N⟩;have iW:=aD N;clear N
 have jM:x<6:=by omega
 clear hx
 go_wp2_with fail
 refine (bA D R (K+2) j1 6 _ hc1 (by omega) (by omega)).mono ?_;rintro e w2 ⟨y,rfl,hy,j2,hc2,fM,N⟩;have iX:=aD N;clear N
 have kM:y<6:=by omega
 obtain⟨n,hn⟩:∃n,n=2+x:=⟨_,rfl⟩
 have iA:2+(x:Int)=(n:Int):=by omega
 rw[iA];obtain⟨ho,hT⟩:∃n,n=1+y:=⟨_,rfl⟩
 have iB:Hid (1+(y:Int)=(ho:Int)):=by show 1+(y:Int)=(ho:Int); omega
 have kK:2<=n:=by omega
 have kL:n<=7:=by omega
 have f7:=aD hn;have iT:=aD hT;clear iA hy hn jM hc1;have hH:=(But.aG (K:=fun c=>c≠R) hb0).trans (fL.trans fM);have hr2:=(fL.trans fM).row hr0 (by omega);have eJ:=hr2.lt;have hb3:=bC w2 (.cells #[.int .i64 (n:Int),.slice none 0 0,.slice none 0 0,.slice none 0 0,.int .i64 (ho:Int)] 27);have hr3:(w2.alloc (.cells #[.int .i64 (n:Int),.slice none 0 0,.slice none 0 0,.slice none 0 0,.int .i64 (ho:Int)] 27)).rowIs w2.heap.size 27 5 (fun i=>(#[.int .i64 (n:Int),.slice none 0 0,.slice none 0 0,.slice none 0 0,.int .i64 (ho:Int)]:Array Value)[i]!):=dH w2 27 #[.int .i64 (n:Int),.slice none 0 0,.slice none 0 0,.slice none 0 0,.int .i64 (ho:Int)];have fR:gA w R w2.heap.size ⟨K+4,j2,D⟩ (n:Int) (ho:Int) (w2.alloc (.cells #[.int .i64 (n:Int),.slice none 0 0,.slice none 0 0,.slice none 0 0,.int .i64 (ho:Int)] 27)) (.slice none 0 0) (.slice none 0 0) (.slice none 0 0):=⟨hH.call hb3,hc2.but (Q:=fun _=>True) (But.aG hb3) fun _ _=>trivial,⟨_,dP hr2 hb3⟩,hcb,eJ,hr3⟩;have cG:=aD fR;have g9:=aD fR.cur;clear hb0 hr0 hc0 fL fM hH hr2 hb3 hr3 fR hc2
 have jX:ho<=6:=by omega
 have jW:1<=ho:=by omega
 clear hT
 go_wp2_with fail
 rw[iB.out];clear iB;refine (bA D R (K+4) j2 4 _ g9.out (by omega) (by omega)).mono ?_;rintro e w4 ⟨k0,rfl,bL,j3,hI,h7,N⟩;have iZ:=aD N;clear N;have fC:=aD (cG.out.pick h7 hI)
 have kH:k0<4:=by omega
 obtain⟨pb,iC⟩:∃b,b=w2.heap.size:=⟨_,rfl⟩;rw[← iC] at fC ⊢;clear cG g9 h7 hI bL iC eJ hc w1 w2;go_wp2
 go_loopw [4] (fun z wr=>∃(k:Nat) (s:Value) (l:List Int) (jl:Nat),l.length+k<=3∧z=.int .i64 (k:Int)∧gA w R pb ⟨K+6+2*(3-k),jl,D⟩ (n:Int) (ho:Int) wr s (.slice none 0 0) (.slice none 0 0)∧wr.ownsRow (pb+1) 3 1 s l.length (dD l)∧(∀x∈l,bN x 0 ((n:Int)-1))∧lB D n k l jl=lB D n k0 [] j3) (fun z _=>(intOf z).toNat)
 case atStart=>exact⟨k0,_,[],j3,by show 0+k0<=3; omega,rfl,fC.out.mono (by omega),World.ownsRow_nil _ _ _ _,(fun _ h=>by cases h),rfl⟩
 case round=>
  obtain⟨k,s,l,jl,cY,rfl,hP,T,c7,hO⟩:=hrel;have gG:=aD hO;clear hO;rename World=>wr;clear fC;obtain⟨al,ca,e⟩:=zag T;subst e;obtain⟨O,g1⟩:∃O,O=l.length:=⟨_,rfl⟩;rw[← g1] at cY T hP;have aW:=aD g1;have gI:=aD c7;clear g1 c7;by_cases hz:0<k
  ·have eE:decide ((0:Int)<(k:Int))=true:=decide_eq_true (by omega);have HP:=aD hP;have cF:=aD T;clear hP T
   go_upto_region 5 with fail
   have aR:∀W K' ,gA w R pb K' (n:Int) (ho:Int) W (.slice al O ca) (.slice none 0 0) (.slice none 0 0)->W.cell? ⟨pb,0,none⟩=some (.int .i64 (n:Int))∧W.cell? ⟨pb,1,none⟩=some (.slice al O ca):=fun W K' F=>⟨F.plan.cell (i:=0) (by omega),F.plan.cell (i:=1) (by omega)⟩;have KS:=aD aR;clear aR;refine mV (S:=fun W=>W.cell? ⟨pb,0,none⟩=some (.int .i64 (n:Int))∧W.cell? ⟨pb,1,none⟩=some (.slice al O ca)) 9 (by kernel_rfl) (KS.out _ _ (HP.out.far (Q:=fun _=>True) (But.aG (cT _)) fun _ _=>trivial)) (fun a=>?_);have aL:=HP.out.far (Q:=fun _=>True) (But.aG (cT wr)) fun _ _=>trivial;have fQ:=gD (K:=fun _=>True) cF.out (But.aG (cT wr)) fun _ _=>trivial;obtain⟨wA,dB⟩:∃W,W=wr.drew:=⟨_,rfl⟩;rw[← dB] at a aL fQ ⊢;have aJ:=aD aL;have gP:=aD fQ;have gB:=aD aL.cur;clear dB HP cF aL fQ;refine bM (v:=?v0) At.z (by kernel_rfl) (fun _ _ _ h=>h) rfl ?h0 a ?_
   case h0=>intro _ s;(try dsimp only at s);go_simp;try with_reducible rfl
   try simp only[Act.put,sA,sB,sC]
   refine bM (v:=?v1) At.z.s (by kernel_rfl) (fun _ _ _ h=>h) rfl ?h1 a ?_
   case h1=>intro _ s;(try dsimp only at s);go_simp;try with_reducible rfl
   try simp only[Act.put,sA,sB,sC]
   refine bM (v:=?v2) At.z.s.s (by kernel_rfl) (fun _ _ _ h=>h) rfl ?h2 a ?_
   case h2=>intro _ s;(try dsimp only at s);go_simp;try with_reducible rfl
   try simp only[Act.put,sA,sB,sC]
   refine bM (v:=?v3) At.z.s.s.s (by kernel_rfl) (fun _ _ _ h=>h) rfl ?h3 a ?_
   case h3=>intro _ s;(try dsimp only at s);go_simp;try with_reducible rfl
   try simp only[Act.put,sA,sB,sC]
   refine bM (v:=?v4) At.z.s.s.s.s (by kernel_rfl) (fun _ _ _ h=>h) rfl ?h4 a ?_
   case h4=>intro _ s;(try dsimp only at s);go_simp;try with_reducible rfl
   try simp only[Act.put,sA,sB,sC]
   clear a;refine dX (i:=5) At.z.f (by kernel_rfl) (fun K1 a7=>?_);go_simp;refine (bA D R _ _ n _ gB.out (by omega) (by omega)).mono ?_;rintro e wB ⟨x,rfl,hx,jx,b8,hB,N⟩;have jB:=aD N;clear N
   have jN:x<n:=by omega
   have aE:=aJ.out.pick hB b8
   have hA:=iY gP.out hB fun c hc _=>by have:=aJ.out.hcb; have:=aJ.out.lt; omega
   have b5:=aD aE;have gQ:=aD hA;refine a7.out _ _ (KS.out _ _ aE) ?_;clear a7 K1 hx hB b8 aE hA aJ gP gB
   try simp only[Act.put,sA,sB,sC]
   refine dX (i:=6) At.z.f.s (by kernel_rfl) (fun K1 a7=>?_);go_simp;have q:=bC wB (.cells #[.int .i64 (x:Int)] 3);have X:=b5.out.far (Q:=fun _=>True) (But.aG q) fun _ _=>trivial;have b7:=gD (K:=fun _=>True) gQ.out (But.aG q) fun _ _=>trivial;have aC:=aD (xU wB 3 #[.int .i64 (x:Int)]);have HZ:Hid (pb+1<=(wB.alloc (.cells #[.int .i64 (x:Int)] 3)).heap.size):=X.plan.lt;refine a7.out _ _ (KS.out _ _ X) ?_;have aY:=aD X;have aP:=aD b7;clear a7 K1 q X b7 b5 gQ
   try simp only[Act.put,sA,sB,sC]
   refine dX (i:=7) At.z.f.s.s (by kernel_rfl) (fun K1 a7=>?_);refine JU _ _ 23 rfl (pb+1) 3 (.int .i64 0) 1 8 Tryz.underlying23 Tryz.dA rfl (by decide) (.slice al O ca) O (dD l) rfl aP.out ⟨wB.heap.size,0,none⟩ 1 1 [.int .i64 (x:Int)] rfl rfl aC.out (fun u hu=>by rw[List.mem_singleton.1 hu]; rfl) (by unfold maxLen; omega) (by omega) HZ.out ?_;intro v' wD bR aF;obtain⟨a6,c6,rfl⟩:=zag bR;have b6:=mH aP.out aF (Nat.le_refl _) HZ.out
   have bY:=aY.out.far (Q:=fun c=>c<pb+1) (But.of_below b6 fun _ _ z=>z) fun c hc=>by omega
   refine a7.out _ _ (KS.out _ _ bY) ?_;have a:=KS.out _ _ bY;clear a7 K1
   try simp only[Act.put,sA,sB,sC]
   refine bM (v:=?v8) At.z.f.s.s.s (by kernel_rfl) (fun _ _ _ h=>h) rfl ?h8 a ?_
   case h8=>intro _ s;(try dsimp only at s);go_simp;try with_reducible rfl
   try simp only[Act.put,sA,sB,sC]
   clear a;refine iQ At.z.f.s.s.s.s (by kernel_rfl) (by kernel_rfl) (fun K1 a7=>?_);have y1:wD.cell? ⟨pb,1,none⟩=some (.slice al O ca):=bY.plan.cell (i:=1) (by omega);have z1:=bY.plan.frozen 1;have hD:=bY.set1 (.slice a6 (O+1) c6)
   have hC:(wD.setCell ⟨pb,1,none⟩ (.slice a6 (O+1) c6)).ownsRow (pb+1) 3 1 (.slice a6 (O+1) c6) (l++[(x:Int)]).length (dD (l++[(x:Int)])):=by
    rw[xD,show (l++[(x:Int)]).length=O+1 by rw[aW.out]; simp]
    exact iY (K:=fun c=>c≠pb) bR ((But.refl _ _).setCell (fun z=>z rfl) _) fun c hc _=>by omega
   have iV:=aD hD;have iR:=aD hC
   have iL:Hid (∀z∈l++[(x:Int)],bN z 0 ((n:Int)-1)):=fun z hz=>by
    rcases List.mem_append.1 hz with h | h
    ·exact gI.out z h
    ·rw[List.mem_singleton.1 h]; exact⟨by omega,by omega⟩
   have f2:Hid ((l++[(x:Int)]).length+(k-1)<=3):=by show (l++[(x:Int)]).length+(k-1)<=3; have:=aW.out; simp; omega
   clear bY hD hC bR aF b6 aY aP aC KS;go_simp;refine a7.out _ _ ?_;clear a7 K1 y1 z1
   try simp only[Act.put,sA,sB,sC]
   go_wp2;go_roundw
   case rel=>exact⟨k-1,_,l++[(x:Int)],_,f2.out,by go_num,iV.out.mono (by omega),iR.out,iL.out,(pD hz jB.out).trans gG.out⟩
   case measure=>simp[intOf]; omega
  ·have eE:decide ((0:Int)<(k:Int))=false:=decide_eq_false (by omega);have HP:=aD (hP.mono (L:=K+12) (by omega))
   have j0:Hid (lB D n k0 [] j3=(l,jl)):=by
    show _=_;rw[← gG.out,show k=0 by omega];rfl
   have cF:=aD T
   have k8:O<=3:=by omega
   clear hP T cY
   go_wp2_with fail
   refine (bA D R (K+12) jl 5 _ HP.out.cur (by omega) (by omega)).mono ?_;rintro e w5 ⟨k5,rfl,jI,j5,hc5,fP,N⟩;have j4:=aD N;clear N;have gW:=aD (HP.out.pick fP hc5);have gO:=aD (iY cF.out fP fun c hc _=>by have:=HP.out.hcb; have:=HP.out.lt; omega)
   have jY:k5<5:=by omega
   clear jI hc5 fP HP cF eE hz;go_wp2
   go_loopw [5] (fun z wr=>∃(k:Nat) (y:Value) (M:List (eK×aT)) (jw:Nat),M.length+k<=5∧1<=M.length+k∧z=.int .i64 (k:Int)∧gA w R pb ⟨K+20+100*(5-k),jw,D⟩ (n:Int) (ho:Int) wr (.slice al O ca) y (.slice none 0 0)∧wr.ownsRow (pb+1) 3 1 (.slice al O ca) O (dD l)∧iI wr (pb+1) y M∧(∀x∈M,dG (n:Int) l x.2)∧fB D n l k (M.map Prod.snd) jw=fB D n l (k5+1) [] j5) (fun z _=>(intOf z).toNat)
   case atStart=>exact⟨k5+1,_,[],j5,by show 0+(k5+1)<=5; omega,by show 1<=0+(k5+1); omega,by go_num,gW.out.mono (by omega),gO.out,⟨World.ownsRow_nil _ _ _ _,fun _ h=>by cases h⟩,(fun _ h=>by cases h),rfl⟩
   case round=>
    obtain⟨kw,y,M,jw,jL,iJ,rfl,hP,T,dE,eC,hQ⟩:=hrel;have gH:=aD hQ;clear hQ;rename World=>wv;clear gW gO;by_cases hz:0<kw
    ·have eE:decide ((0:Int)<(kw:Int))=true:=decide_eq_true (by omega);have q:=bC wv (.cells #[.slice none 0 0,.slice none 0 0,.slice none 0 0,.slice none 0 0,.slice none 0 0] 51);have iE:(wv.alloc (.cells #[.slice none 0 0,.slice none 0 0,.slice none 0 0,.slice none 0 0,.slice none 0 0] 51)).rowIs wv.heap.size 51 5 (fun i=>(#[.slice none 0 0,.slice none 0 0,.slice none 0 0,.slice none 0 0,.slice none 0 0]:Array Value)[i]!):=dH wv 51 #[.slice none 0 0,.slice none 0 0,.slice none 0 0,.slice none 0 0,.slice none 0 0];have hG:fN w wv R pb wv.heap.size (n:Int) (ho:Int) (.slice al O ca) y ⟨K+20+100*(5-kw),jw,D⟩ (wv.alloc (.cells #[.slice none 0 0,.slice none 0 0,.slice none 0 0,.slice none 0 0,.slice none 0 0] 51)) ⟨.slice none 0 0,.slice none 0 0,.slice none 0 0,.slice none 0 0,.slice none 0 0⟩ ⟨[],[],[],[],[]⟩:=⟨hP.far (Q:=fun _=>True) (But.aG q) fun _ _=>trivial,But.aG q,iE,⟨World.ownsRow_nil _ _ _ _,World.ownsRow_nil _ _ _ _,World.ownsRow_nil _ _ _ _,World.ownsRow_nil _ _ _ _,World.ownsRow_nil _ _ _ _⟩,(fun g hg=>by cases hg),rfl,hP.plan.lt⟩;have cO:=aD hG;have eH:=aD T;have b0:=aD dE;have cM:=aD eC;have jV:=hP.lt;clear q iE hG hP T dE eC;go_wp2;obtain⟨W1,dR⟩:∃W,W=wv.alloc (.cells #[.slice none 0 0,.slice none 0 0,.slice none 0 0,.slice none 0 0,.slice none 0 0] 51):=⟨_,rfl⟩;rw[← dR] at cO ⊢;clear dR;obtain⟨C,hwb⟩:∃b,b=wv.heap.size:=⟨_,rfl⟩;rw[← hwb] at cO ⊢
     have kB:=aD hwb;clear hwb;obtain⟨K1,a7⟩:∃b,b=K+20+100*(5-kw):=⟨_,rfl⟩;rw[← a7] at cO
     have jU:K1<=2000:=by omega
     have iP:=aD a7;clear a7
     go_loopw [] (fun wq=>∃(v0:Value) (l0:List Int) (Kq jq:Nat),fN w wv R pb C (n:Int) (ho:Int) (.slice al O ca) y ⟨Kq,jq,D⟩ wq ⟨v0,.slice none 0 0,.slice none 0 0,.slice none 0 0,.slice none 0 0⟩ ⟨l0,[],[],[],[]⟩∧(∀j,j<l0.length->pS (n:Int) l0 j)∧l0.length<=4∧(l0=[]∧Kq=K1∧jq=jw∨l0≠[]∧Kq=K1+14∧dU D n jw=(l0,jq))) (fun wq=>1-rN wq C 0)
     case atStart=>exact⟨_,[],K1,jw,cO.out,(fun j hj=>absurd hj (by show ¬j<0; omega)),by show 0<=4; omega,.inl ⟨rfl,rfl,rfl⟩⟩
     case round=>
      obtain⟨v0,l0,Kq,jq,F,g3,i0,fW⟩:=hrel;rename World=>wq;clear cO;obtain⟨a0,c0,e⟩:=zag F.way.s0;have e':v0=.slice a0 l0.length c0:=e;subst e';have q0:wq.cell? ⟨C,0,none⟩=some (.slice a0 l0.length c0):=F.box.cell (i:=0) (by omega);rcases fW with ⟨rfl,rfl,rfl⟩ | ⟨i7,rfl,iF⟩
      ·have cW:rN wq C 0=0:=by unfold rN; rw[q0]; rfl
       have eG:=aD cW;have jQ:wq.cell? ⟨C,0,none⟩=some (.slice a0 0 c0):=q0;have p0:wq.cell? ⟨pb,0,none⟩=some (.int .i64 (n:Int)):=F.pl.plan.cell (i:=0) (by omega);have HW:=aD F;clear cW q0 F g3 i0 e
       go_wp2_with fail
       refine (fO D R Kq jq n 4 (.slice none 0 0) [] wq HW.out.pl.cur (by omega) (by omega) (by omega) (by omega) ⟨none,0,rfl,.inl rfl⟩ (by show 0<=1000; omega)).mono ?_;rintro e w6 ⟨v,l6,rfl,H,bD,b3,-,j6,hc6,b6,N⟩;have dN:=aD N;clear N;have gS:=aD bD;obtain⟨n6,d0⟩:∃m,m=l6.length:=⟨_,rfl⟩;have dK:=aD d0;rw[← d0] at H b3;obtain⟨a6,c6,rfl⟩:=zag H;have aM:=HW.out.pick b6 hc6;have aS:=nV H (b':=C+1) HW.out.box.lt;rw[d0] at aS;have G:=aM.xB aS;rw[← d0] at G;have x6:w6.cell? ⟨C,0,none⟩=some (.slice a0 0 c0):=aM.box.cell (i:=0) (by omega);have z6:=aM.box.frozen 0;have y6:(w6.setCell ⟨C,0,none⟩ (.slice a6 n6 c6)).cell? ⟨C,0,none⟩=some (.slice a6 n6 c6):=G.box.cell (i:=0) (by omega)
       have bT:Hid (rN (w6.setCell ⟨C,0,none⟩ (.slice a6 n6 c6)) C 0=n6):=by show rN _ _ _=_; unfold rN; rw[y6]
       have a5:=aD G;clear d0 bD H aS aM G hc6 b6 jQ HW y6;by_cases fK:n6=0
       ·subst fK;have y6:(w6.setCell ⟨C,0,none⟩ (.slice a6 0 c6)).cell? ⟨C,0,none⟩=some (.slice a6 0 c6):=a5.out.box.cell (i:=0) (by omega);have p6:(w6.setCell ⟨C,0,none⟩ (.slice a6 0 c6)).cell? ⟨pb,0,none⟩=some (.int .i64 (n:Int)):=a5.out.pl.plan.cell (i:=0) (by omega)
        go_upto_region 12 with fail
        obtain⟨W7,G⟩:∃W,W=w6.setCell ⟨C,0,none⟩ (.slice a6 0 c6):=⟨_,rfl⟩;rw[← G] at a5 y6 p6 bT ⊢;clear G x6 z6
        go_wp2_with fail
        refine (bA D R _ _ n W7 a5.out.pl.cur (by omega) (by omega)).mono ?_;rintro e w8 ⟨x,rfl,hx,j8,c5,bX,N⟩;have iU:=aD N;clear N
        have jN:x<n:=by omega
        have q:=bC w8 (.cells #[.int .i64 (x:Int)] 3);have aN:=(a5.out.pick bX c5).call q;have eI:=nV (I5 w8 3 (.int .i64 (x:Int))) (b':=C+1) (a5.out.pick bX c5).box.lt;have cQ:=aN.xB (l:=[(x:Int)]) eI;have x9:(w8.alloc (.cells #[.int .i64 (x:Int)] 3)).cell? ⟨C,0,none⟩=some (.slice a6 0 c6):=aN.box.cell (i:=0) (by omega);have z9:=aN.box.frozen 0;have y9:=cQ.box.cell (i:=0) (by omega)
        have f2:Hid (rN ((w8.alloc (.cells #[.int .i64 (x:Int)] 3)).setCell ⟨C,0,none⟩ (.slice (some ⟨w8.heap.size,0,none⟩) 1 1)) C 0=1):=by show rN _ _ _=_; unfold rN; rw[y9]; rfl
        have gY:=aD (cQ.mono (L:=Kq+14) (by omega));have gU:Hid (∀j,j<([(x:Int)]:List Int).length->pS (n:Int) [(x:Int)] j):=DL (l:=[]) (fun j hj=>absurd hj (by show ¬j<0; omega)) ⟨by omega,by omega⟩ (fun h=>by cases h);clear hx c5 bX q aN eI cQ y9 a5 y6 p6 bT p0;go_wp2;go_roundw
        case rel=>exact⟨_,[(x:Int)],Kq+14,_,gY.out,gU.out,by show 1<=4; omega,.inr ⟨(fun z=>by cases z),rfl,qL dN.out dK.out.symm iU.out⟩⟩
        case measure=>rw[f2.out,eG.out]; omega
       ·have jT:((n6:Int) == 0)=false:=by simp; omega
        have y6:(w6.setCell ⟨C,0,none⟩ (.slice a6 n6 c6)).cell? ⟨C,0,none⟩=some (.slice a6 n6 c6):=a5.out.box.cell (i:=0) (by omega)
        go_upto_region 12 with fail
        obtain⟨W7,G⟩:∃W,W=w6.setCell ⟨C,0,none⟩ (.slice a6 n6 c6):=⟨_,rfl⟩;rw[← G] at a5 y6 bT ⊢;clear G x6 z6 p0;go_wp2;go_roundw
        case rel=>exact⟨_,l6,Kq+14,_,a5.out.mono (by omega),gS.out,by have:=dK.out; omega,.inr ⟨fun z=>fK (by rw[dK.out,z]; rfl),rfl,pA dN.out (by rw[← dK.out]; exact fK)⟩⟩
        case measure=>rw[bT.out,eG.out]; omega
      ·have jD:=aD iF;clear iF;obtain⟨n0,e8⟩:∃m,m=l0.length:=⟨_,rfl⟩
       have k7:1<=n0:=by
        rcases l0 with _ | ⟨x,l⟩
        ·exact absurd rfl i7
        ·rw[e8]; show 1<=l.length+1; omega
       have kE:((n0:Int) == 0)=false:=by simp; omega
       rw[← e8] at F i0 q0;have p0:wq.cell? ⟨pb,0,none⟩=some (.int .i64 (n:Int)):=F.pl.plan.cell (i:=0) (by omega);have iS:=aD g3;have dJ:=aD e8;have kJ:=F.lt;have kI:=F.pl.hcb;have d7:Ints (fun b=>b<wq.heap.size∧b≠R) wq (.slice a0 n0 c0) l0:=(oF F.way.s0).2.keep (hU _ _) fun b hb=>⟨hb.2,by have:=hb.1; omega⟩;have iG:=aD (fO D R (K1+14) jq n 2 (.slice a0 n0 c0) l0 wq F.pl.cur (by omega) (by omega) (by omega) (by omega) d7 (by omega));have HW:=aD F;clear F g3 d7 e i7 e8
       go_wp2_with fail
       refine iG.out.mono ?_;rintro e w6 ⟨v3,cC,rfl,H,bD,b3,eN,j6,hc6,b6,N⟩;have dN:=aD N;clear N;have gV:=aD (And.intro bD (And.intro b3 eN));obtain⟨m3,dY⟩:∃m,m=cC.length:=⟨_,rfl⟩;rw[← dY] at H;obtain⟨a3,c3,rfl⟩:=zag H;have aM:=HW.out.pick b6 hc6;have aS:=nV H (b':=C+1) HW.out.box.lt;rw[dY] at aS;have G:=aM.AQ aS;rw[← dY] at G;have x6:w6.cell? ⟨C,3,none⟩=some (.slice none 0 0):=aM.box.cell (i:=3) (by omega);have z6:=aM.box.frozen 3;have y6:(w6.setCell ⟨C,3,none⟩ (.slice a3 m3 c3)).cell? ⟨C,0,none⟩=some (.slice a0 n0 c0):=G.box.cell (i:=0) (by omega);have p6:(w6.setCell ⟨C,3,none⟩ (.slice a3 m3 c3)).cell? ⟨pb,0,none⟩=some (.int .i64 (n:Int)):=G.pl.plan.cell (i:=0) (by omega);have d7:Ints (fun b=>b<(w6.setCell ⟨C,3,none⟩ (.slice a3 m3 c3)).heap.size∧b≠R) (w6.setCell ⟨C,3,none⟩ (.slice a3 m3 c3)) (.slice a0 n0 c0) l0:=(oF G.way.s0).2.keep (hU _ _) fun b hb=>⟨hb.2,by have:=hb.1; omega⟩;have d9:=aD (fO D R (K1+14+2*2+4) j6 n 2 (.slice a0 n0 c0) l0 (w6.setCell ⟨C,3,none⟩ (.slice a3 m3 c3)) G.pl.cur (by omega) (by omega) (by omega) (by omega) d7 (by have:=dJ.out; omega));have a5:=aD G;clear dY H bD b3 eN hc6 b6 aM aS G d7 HW iG q0
       go_upto_region 15 with fail
       obtain⟨W7,G⟩:∃W,W=w6.setCell ⟨C,3,none⟩ (.slice a3 m3 c3):=⟨_,rfl⟩;rw[← G] at a5 y6 p6 d9 ⊢;clear G x6 z6
       go_wp2_with fail
       refine d9.out.mono ?_;rintro e w8 ⟨v4,cB,rfl,b4,eP,cX,i5,j8,c5,bX,N⟩;have jC:=aD N;clear N;have gN:=aD (And.intro eP cX);obtain⟨m4,dZ⟩:∃m,m=cB.length:=⟨_,rfl⟩;rw[← dZ] at b4;obtain⟨a4,c4,rfl⟩:=zag b4;have dS:=a5.out.pick bX c5;have cZ:=nV b4 (b':=C+1) a5.out.box.lt;rw[dZ] at cZ;have aN:=(dS.AS cZ).mono (L:=K1+30) (by omega);rw[← dZ] at aN;have x8:w8.cell? ⟨C,4,none⟩=some (.slice none 0 0):=dS.box.cell (i:=4) (by omega);have z8:=dS.box.frozen 4;have p8:(w8.setCell ⟨C,4,none⟩ (.slice a4 m4 c4)).cell? ⟨pb,1,none⟩=some (.slice al O ca):=aN.pl.plan.cell (i:=1) (by omega);have fE:=aD aN;clear dZ b4 eP cX i5 c5 bX dS cZ aN a5 d9 y6 p6 p0
       go_upto_region 16 with fail
       obtain⟨W9,aN⟩:∃W,W=w8.setCell ⟨C,4,none⟩ (.slice a4 m4 c4):=⟨_,rfl⟩;rw[← aN] at fE p8 ⊢;clear aN x8 z8;go_wp2
       go_loopw [77] (fun z wx=>∃(i:Nat) (v1 v2:Value) (li fl:List (Int×Int)) (jx:Nat),i<=O∧z=.int .i64 (i:Int)∧fN w wv R pb C (n:Int) (ho:Int) (.slice al O ca) y ⟨K1+30+4*i,jx,D⟩ wx ⟨.slice a0 n0 c0,v1,v2,.slice a3 m3 c3,.slice a4 m4 c4⟩ ⟨l0,li,fl,cC,cB⟩∧(∀j,j<li.length->rP i li j)∧(∀j,j<fl.length->rP i fl j)∧li.length<=i∧fl.length<=i∧(∀x∈li,∃s,l[x.1.toNat]?=some s∧s∈l0)∧(∀x∈fl,∃s,l[x.1.toNat]?=some s∧¬s∈l0)∧bU D l0 (l.drop i) i li fl jx=bU D l0 l 0 [] [] j8) (fun z _=>O-(intOf z).toNat)
       case atStart=>exact⟨0,_,_,[],[],j8,by omega,rfl,fE.out,(fun j hj=>absurd hj (by show ¬j<0; omega)),(fun j hj=>absurd hj (by show ¬j<0; omega)),Nat.le_refl _,Nat.le_refl _,(fun x h=>by cases h),(fun x h=>by cases h),rfl⟩
       case round=>
        obtain⟨i,v1,v2,li,fl,jx,hi,rfl,F,eA,e9,i3,i1,e7,e5,hN⟩:=hrel;have dI:=aD hN;clear hN;rename World=>wx;clear fE p8;by_cases bP:i<O
        ·have eM:decide ((i:Int)<(O:Int))=true:=decide_eq_true (by omega)
         have i8:0<O:=by omega
         obtain⟨g,kC,e,hg,-,cU⟩:=uY eH.out i8
         cases e
         obtain⟨sx,g7⟩:=bG l (aD aW.out.symm) bP;have x0:wx.cell? ⟨g,i,none⟩=some (.int .i64 sx):=F.kp.cell (cU i _ (by show (dD l)[i]?=_; unfold dD; rw[List.getElem?_map,g7]; rfl)) (show pb<g by omega);have cL:=aD g7;have q:=bC wx (.cells #[.int .i64 sx] 3);have b2:=F.call q;have yA:(wx.alloc (.cells #[.int .i64 sx] 3)).cell? ⟨C,0,none⟩=some (.slice a0 n0 c0):=b2.box.cell (i:=0) (by omega);have HM:=aD (tH _ _ [sx] l0 (wx.alloc (.cells #[.int .i64 sx] 3)) (BP wx sx) ((oF b2.way.s0).2.keep (hU _ _) (Q:=In _) fun b hb=>hb.2) (by show 1<=1048576; omega) (by have:=dJ.out; omega));have U:=aD b2;have f9:=aD eA;have f8:=aD e9;have f6:=aD e7;have f5:=aD e5;obtain⟨nl,d6⟩:∃m,m=li.length:=⟨_,rfl⟩;obtain⟨nf,d5⟩:∃m,m=fl.length:=⟨_,rfl⟩;rw[← d6] at i3;rw[← d5] at i1;have bW:=aD d6;have bV:=aD d5;clear g7 q b2 F eA e9 e7 e5 d6 d5 cU i8
         go_wp2_with fail
         refine HM.out.mono ?_;rintro e w3 ⟨rfl,bF⟩;have bH:=bF.symm;subst bH;clear bF HM;obtain⟨wA,dB⟩:∃W,W=wx.alloc (.cells #[.int .i64 sx] 3):=⟨_,rfl⟩;rw[← dB] at U yA ⊢;clear dB x0;by_cases m1:Meet [sx] l0
         ·rw[bQ m1];have M1:=aD m1;clear m1
          go_upto_region 20 with fail
          have aU:=U.out.way.l1;obtain⟨a1,c1,e⟩:=zag aU;have e':v1=.slice a1 li.length c1:=e;rw[show li.length=nl from bW.out.symm] at e';subst e';clear e aU;have aR:∀W K',fN w wv R pb C (n:Int) (ho:Int) (.slice (some ⟨g,0,none⟩) O ca) y K' W ⟨.slice a0 n0 c0,(.slice a1 nl c1),v2,.slice a3 m3 c3,.slice a4 m4 c4⟩ ⟨l0,li,fl,cC,cB⟩->W.cell? ⟨C,1,none⟩=some (.slice a1 nl c1):=fun W K' F=>F.box.cell (i:=1) (by omega);have KS:=aD aR;clear aR;refine mV (S:=fun W=>W.cell? ⟨C,1,none⟩=some (.slice a1 nl c1)) 10 (by kernel_rfl) (KS.out _ _ (U.out.call (cT _))) (fun a=>?_);have aL:=U.out.call (cT wA);obtain⟨wD,bI⟩:∃W,W=wA.drew:=⟨_,rfl⟩;rw[← bI] at a aL ⊢;have aJ:=aD aL;clear bI U aL;refine bM (v:=?vb0) At.z (by kernel_rfl) (fun _ _ _ h=>h) rfl ?hb0 a ?_
          case hb0=>intro _ s;(try dsimp only at s);go_simp;try with_reducible rfl
          try simp only[Act.put,sA,sB,sC]
          refine bM (v:=?vb1) At.z.s (by kernel_rfl) (fun _ _ _ h=>h) rfl ?hb1 a ?_
          case hb1=>intro _ s;(try dsimp only at s);go_simp;try with_reducible rfl
          try simp only[Act.put,sA,sB,sC]
          refine bM (v:=?vb2) At.z.s.s (by kernel_rfl) (fun _ _ _ h=>h) rfl ?hb2 a ?_
          case hb2=>intro _ s;(try dsimp only at s);go_simp;try with_reducible rfl
          try simp only[Act.put,sA,sB,sC]
          refine bM (v:=?vb3) At.z.s.s.s (by kernel_rfl) (fun _ _ _ h=>h) rfl ?hb3 a ?_
          case hb3=>intro _ s;(try dsimp only at s);go_simp;try with_reducible rfl
          try simp only[Act.put,sA,sB,sC]
          clear a;refine dX (i:=4) At.z.s.s.s.s (by kernel_rfl) (fun V d=>?_);go_simp;refine (bA D R _ _ 2 _ aJ.out.pl.cur (by omega) (by omega)).mono ?_;rintro e wB ⟨r,rfl,hr,jr,b8,hB,N⟩;have cH:=aD N;clear N
          have hr2:r<2:=by omega
          have aE:=aJ.out.pick hB b8;have b5:=aD aE;refine d.out _ _ (KS.out _ _ aE) ?_;have a:=KS.out _ _ aE;clear d V hr hB b8 aE aJ
          try simp only[Act.put,sA,sB,sC]
          refine bM (v:=?vb5) At.z.f (by kernel_rfl) (fun _ _ _ h=>h) rfl ?hb5 a ?_
          case hb5=>intro _ s;(try dsimp only at s);go_simp;try with_reducible rfl
          try simp only[Act.put,sA,sB,sC]
          rw[show IntKind.i64.wrap (1+(r:Int))=1+(r:Int) from IntWalk.i64_in _ ⟨by omega,by omega⟩];refine bM (v:=?vb6) At.z.f.s (by kernel_rfl) (fun _ _ _ h=>h) rfl ?hb6 a ?_
          case hb6=>intro _ s;(try dsimp only at s);go_simp;try with_reducible rfl
          try simp only[Act.put,sA,sB,sC]
          clear a;refine dX (i:=7) At.z.f.s.s (by kernel_rfl) (fun V d=>?_);go_simp;have q:=bC wB (.cells #[.int .i64 (i:Int),.int .i64 (1+(r:Int))] 58);have X:=b5.out.call q;have aC:=aD (xU wB 58 #[.int .i64 (i:Int),.int .i64 (1+(r:Int))]);have HZ:Hid (C+1<=(wB.alloc (.cells #[.int .i64 (i:Int),.int .i64 (1+(r:Int))] 58)).heap.size):=X.box.lt
          have b7:(wB.alloc (.cells #[.int .i64 (i:Int),.int .i64 (1+(r:Int))] 58)).ownsRow (C+1) 58 2 (.slice a1 nl c1) nl (dC li):=by
           have:=X.way.l1;rw[show li.length=nl from bW.out.symm] at this;exact this
          refine d.out _ _ (KS.out _ _ X) ?_;have aY:=aD X;have aP:=aD b7;clear d V q X b7 b5
          try simp only[Act.put,sA,sB,sC]
          refine dX (i:=8) At.z.f.s.s.s (by kernel_rfl) (fun V d=>?_);refine EW _ _ 49 rfl (C+1) 58 (.agg #[.int .i64 0,.int .i64 0]) 2 16 Tryz.underlying49 Tryz.fX rfl (by decide) (.slice a1 nl c1) nl (dC li) rfl aP.out ⟨wB.heap.size,0,none⟩ 1 1 [.int .i64 (i:Int),.int .i64 (1+(r:Int))] rfl rfl aC.out (Bg _ _) (by unfold maxLen; omega) (by omega) HZ.out ?_;intro v' wE a8 aF cS;obtain⟨a6,c6,rfl⟩:=zag a8;have bK:=aY.out.grown aP.out aF;have cR:=aY.out.lie (x:=((i:Int),1+(r:Int))) aF cS a8 (by rw[show nl=li.length from bW.out]);have yE:wE.cell? ⟨C,1,none⟩=some (.slice a1 nl c1):=bK.2.2.cell (i:=1) (by omega);have zE:=bK.2.2.frozen 1;refine d.out _ _ yE ?_;have a:=yE;have fF:=aD cR;clear d V bK cR a8 aF cS aY aP aC KS
          try simp only[Act.put,sA,sB,sC]
          refine bM (v:=?vb9) At.z.f.s.s.s.s (by kernel_rfl) (fun _ _ _ h=>h) rfl ?hb9 a ?_
          case hb9=>intro _ s;(try dsimp only at s);go_simp;try with_reducible rfl
          try simp only[Act.put,sA,sB,sC]
          clear a;refine iQ At.z.f.f (by kernel_rfl) (by kernel_rfl) (fun V d=>?_);go_simp;refine d.out _ _ ?_;clear d V yE zE
          try simp only[Act.put,sA,sB,sC]
          have eZ:=aD (Ck f9.out (x:=1+(r:Int)) ⟨by omega,by omega⟩)
          have f0:Hid (∀z∈li++[((i:Int),1+(r:Int))],∃s,l[z.1.toNat]?=some s∧s∈l0):=fun z hz=>by
           rcases List.mem_append.1 hz with h | h
           ·exact f6.out z h
           ·rw[List.mem_singleton.1 h]; exact⟨sx,cL.out,rR.1 M1.out⟩
          have f1:Hid ((li++[((i:Int),1+(r:Int))]).length<=i+1):=by show (li++[((i:Int),1+(r:Int))]).length<=i+1; have:=bW.out; simp; omega
          go_wp2;go_roundw
          case rel=>exact⟨i+1,_,_,li++[((i:Int),1+(r:Int))],fl,_,by omega,by go_num,fF.out.mono (by omega),eZ.out,yT f8.out,f1.out,by have:=bV.out; omega,f0.out,f5.out,(qH cL.out (rR.1 M1.out) cH.out).trans dI.out⟩
          case measure=>simp[intOf]; omega
         ·rw[bE m1];have M1:=aD m1;clear m1
          go_wp2_with fail
          refine (bA D R _ _ 3 _ U.out.pl.cur (by omega) (by omega)).mono ?_;rintro e wG ⟨r3,rfl,hr3,jg,hc3,h6,N⟩;have cG:=aD N;clear N;have hF:=U.out.pick h6 hc3;have fG:=aD hF;clear hr3 hc3 h6 hF U yA;by_cases h5:r3=0
          ·subst h5;have U:=fG
           go_upto_region 22 with fail
           clear fG;have aU:=U.out.way.l2;obtain⟨a1,c1,e⟩:=zag aU;have e':v2=.slice a1 fl.length c1:=e;rw[show fl.length=nf from bV.out.symm] at e';subst e';clear e aU;have aR:∀W K',fN w wv R pb C (n:Int) (ho:Int) (.slice (some ⟨g,0,none⟩) O ca) y K' W ⟨.slice a0 n0 c0,v1,(.slice a1 nf c1),.slice a3 m3 c3,.slice a4 m4 c4⟩ ⟨l0,li,fl,cC,cB⟩->W.cell? ⟨C,2,none⟩=some (.slice a1 nf c1):=fun W K' F=>F.box.cell (i:=2) (by omega);have KS:=aD aR;clear aR;refine mV (S:=fun W=>W.cell? ⟨C,2,none⟩=some (.slice a1 nf c1)) 10 (by kernel_rfl) (KS.out _ _ (U.out.call (cT _))) (fun a=>?_);have aL:=U.out.call (cT wG);obtain⟨wD,bI⟩:∃W,W=wG.drew:=⟨_,rfl⟩;rw[← bI] at a aL ⊢;have aJ:=aD aL;clear bI U aL;refine bM (v:=?vc0) At.z (by kernel_rfl) (fun _ _ _ h=>h) rfl ?hc0 a ?_
           case hc0=>intro _ s;(try dsimp only at s);go_simp;try with_reducible rfl
           try simp only[Act.put,sA,sB,sC]
           refine bM (v:=?vc1) At.z.s (by kernel_rfl) (fun _ _ _ h=>h) rfl ?hc1 a ?_
           case hc1=>intro _ s;(try dsimp only at s);go_simp;try with_reducible rfl
           try simp only[Act.put,sA,sB,sC]
           refine bM (v:=?vc2) At.z.s.s (by kernel_rfl) (fun _ _ _ h=>h) rfl ?hc2 a ?_
           case hc2=>intro _ s;(try dsimp only at s);go_simp;try with_reducible rfl
           try simp only[Act.put,sA,sB,sC]
           refine bM (v:=?vc3) At.z.s.s.s (by kernel_rfl) (fun _ _ _ h=>h) rfl ?hc3 a ?_
           case hc3=>intro _ s;(try dsimp only at s);go_simp;try with_reducible rfl
           try simp only[Act.put,sA,sB,sC]
           clear a;refine dX (i:=4) At.z.s.s.s.s (by kernel_rfl) (fun V d=>?_);go_simp;refine (bA D R _ _ 2 _ aJ.out.pl.cur (by omega) (by omega)).mono ?_;rintro e wB ⟨r,rfl,hr,jr,b8,hB,N⟩;have cH:=aD N;clear N
           have hr2:r<2:=by omega
           have aE:=aJ.out.pick hB b8;have b5:=aD aE;refine d.out _ _ (KS.out _ _ aE) ?_;have a:=KS.out _ _ aE;clear d V hr hB b8 aE aJ
           try simp only[Act.put,sA,sB,sC]
           refine bM (v:=?vc5) At.z.f (by kernel_rfl) (fun _ _ _ h=>h) rfl ?hc5 a ?_
           case hc5=>intro _ s;(try dsimp only at s);go_simp;try with_reducible rfl
           try simp only[Act.put,sA,sB,sC]
           rw[show IntKind.i64.wrap (1+(r:Int))=1+(r:Int) from IntWalk.i64_in _ ⟨by omega,by omega⟩];refine bM (v:=?vc6) At.z.f.s (by kernel_rfl) (fun _ _ _ h=>h) rfl ?hc6 a ?_
           case hc6=>intro _ s;(try dsimp only at s);go_simp;try with_reducible rfl
           try simp only[Act.put,sA,sB,sC]
           clear a;refine dX (i:=7) At.z.f.s.s (by kernel_rfl) (fun V d=>?_);go_simp;have q:=bC wB (.cells #[.int .i64 (i:Int),.int .i64 (1+(r:Int))] 58);have X:=b5.out.call q;have aC:=aD (xU wB 58 #[.int .i64 (i:Int),.int .i64 (1+(r:Int))]);have HZ:Hid (C+1<=(wB.alloc (.cells #[.int .i64 (i:Int),.int .i64 (1+(r:Int))] 58)).heap.size):=X.box.lt
           have b7:(wB.alloc (.cells #[.int .i64 (i:Int),.int .i64 (1+(r:Int))] 58)).ownsRow (C+1) 58 2 (.slice a1 nf c1) nf (dC fl):=by
            have:=X.way.l2;rw[show fl.length=nf from bV.out.symm] at this;exact this
           refine d.out _ _ (KS.out _ _ X) ?_;have aY:=aD X;have aP:=aD b7;clear d V q X b7 b5
           try simp only[Act.put,sA,sB,sC]
           refine dX (i:=8) At.z.f.s.s.s (by kernel_rfl) (fun V d=>?_);refine EW _ _ 49 rfl (C+1) 58 (.agg #[.int .i64 0,.int .i64 0]) 2 16 Tryz.underlying49 Tryz.fX rfl (by decide) (.slice a1 nf c1) nf (dC fl) rfl aP.out ⟨wB.heap.size,0,none⟩ 1 1 [.int .i64 (i:Int),.int .i64 (1+(r:Int))] rfl rfl aC.out (Bg _ _) (by unfold maxLen; omega) (by omega) HZ.out ?_;intro v' wE a8 aF cS;obtain⟨a6,c6,rfl⟩:=zag a8;have bK:=aY.out.grown aP.out aF;have cR:=aY.out.wP (x:=((i:Int),1+(r:Int))) aF cS a8 (by rw[show nf=fl.length from bV.out]);have yE:wE.cell? ⟨C,2,none⟩=some (.slice a1 nf c1):=bK.2.2.cell (i:=2) (by omega);have zE:=bK.2.2.frozen 2;refine d.out _ _ yE ?_;have a:=yE;have fF:=aD cR;clear d V bK cR a8 aF cS aY aP aC KS
           try simp only[Act.put,sA,sB,sC]
           refine bM (v:=?vc9) At.z.f.s.s.s.s (by kernel_rfl) (fun _ _ _ h=>h) rfl ?hc9 a ?_
           case hc9=>intro _ s;(try dsimp only at s);go_simp;try with_reducible rfl
           try simp only[Act.put,sA,sB,sC]
           clear a;refine iQ At.z.f.f (by kernel_rfl) (by kernel_rfl) (fun V d=>?_);go_simp;refine d.out _ _ ?_;clear d V yE zE
           try simp only[Act.put,sA,sB,sC]
           have eZ:=aD (Ck f8.out (x:=1+(r:Int)) ⟨by omega,by omega⟩)
           have f0:Hid (∀z∈fl++[((i:Int),1+(r:Int))],∃s,l[z.1.toNat]?=some s∧¬s∈l0):=fun z hz=>by
            rcases List.mem_append.1 hz with h | h
            ·exact f5.out z h
            ·rw[List.mem_singleton.1 h]; exact⟨sx,cL.out,fun z=>M1.out (rR.2 z)⟩
           have f1:Hid ((fl++[((i:Int),1+(r:Int))]).length<=i+1):=by show (fl++[((i:Int),1+(r:Int))]).length<=i+1; have:=bV.out; simp; omega
           go_wp2;go_roundw
           case rel=>exact⟨i+1,_,_,li,fl++[((i:Int),1+(r:Int))],_,by omega,by go_num,fF.out.mono (by omega),yT f9.out,eZ.out,by have:=bW.out; omega,f1.out,f6.out,f0.out,(qG cL.out (fun z=>M1.out (rR.2 z)) cG.out cH.out).trans dI.out⟩
           case measure=>simp[intOf]; omega
          ·have jS:((r3:Int) == 0)=false:=by simp; omega
           go_wp2;go_roundw
           case rel=>exact⟨i+1,_,_,li,fl,_,by omega,by go_num,fG.out.mono (by omega),yT f9.out,yT f8.out,by have:=bW.out; omega,by have:=bV.out; omega,f6.out,f5.out,(qI cL.out (fun z=>M1.out (rR.2 z)) cG.out h5).trans dI.out⟩
           case measure=>simp[intOf]; omega
        ·have c7:i=O:=by omega
         subst c7;obtain⟨n1,i6⟩:∃m,m=li.length:=⟨_,rfl⟩;obtain⟨n2,eO⟩:∃m,m=fl.length:=⟨_,rfl⟩;obtain⟨B,bB⟩:∃m,m=M.length:=⟨_,rfl⟩;obtain⟨a1,c1,e⟩:=zag F.way.l1;have e':v1=.slice a1 li.length c1:=e;rw[← i6] at e';subst e';obtain⟨a2,c2,e2⟩:=zag F.way.l2;have e':v2=.slice a2 fl.length c2:=e2;rw[← eO] at e';subst e';obtain⟨ay,cy,e3⟩:=zag b0.out.own;rw[← bB] at e3;subst e3;have gT:Hid (dG (n:Int) l ⟨l0,li,fl,cC,cB⟩):=zrs (by have:=dJ.out; omega) iS.out (by have:=dJ.out; omega) gV.out gN.out (by have:=aW.out; omega) (by rw[← aW.out]; exact eA) (by rw[← aW.out]; exact e9) (by have:=aW.out; omega) (by have:=aW.out; omega) e7 e5;have jA:=aD (tF jD.out dN.out jC.out dI.out aW.out);have q0:wx.cell? ⟨C,0,none⟩=some (.slice a0 n0 c0):=F.box.cell (i:=0) (by omega);have q1:wx.cell? ⟨C,1,none⟩=some (.slice a1 n1 c1):=F.box.cell (i:=1) (by omega);have q2:wx.cell? ⟨C,2,none⟩=some (.slice a2 n2 c2):=F.box.cell (i:=2) (by omega);have q3:wx.cell? ⟨C,3,none⟩=some (.slice a3 m3 c3):=F.box.cell (i:=3) (by omega);have q4:wx.cell? ⟨C,4,none⟩=some (.slice a4 m4 c4):=F.box.cell (i:=4) (by omega);have p2:wx.cell? ⟨pb,2,none⟩=some (.slice ay B cy):=F.pl.plan.cell (i:=2) (by omega);have q:=bC wx (.cells #[.slice a0 n0 c0,.slice a1 n1 c1,.slice a2 n2 c2,.slice a3 m3 c3,.slice a4 m4 c4] 51);have b2:=F.call q
         have eT:=b0.out.far b2.kp fun c hc _=>by omega
         have aC:=aD (xU wx 51 #[.slice a0 n0 c0,.slice a1 n1 c1,.slice a2 n2 c2,.slice a3 m3 c3,.slice a4 m4 c4]);have HZ:Hid (pb+1<=(wx.alloc (.cells #[.slice a0 n0 c0,.slice a1 n1 c1,.slice a2 n2 c2,.slice a3 m3 c3,.slice a4 m4 c4] 51)).heap.size):=b2.pl.plan.lt;have b1:=aD eT.own;rw[← bB] at b1;have aX:=aD bB
         have i9:B<=4:=by omega
         have f3:Hid (B+1<=maxLen):=by show B+1<=maxLen; unfold maxLen; omega
         have f4:Hid ((B+1)*120<=140737488355328):=by show (B+1)*120<=140737488355328; omega
         have cP:=aD (Eb (.slice a0 n0 c0) (.slice a1 n1 c1) (.slice a2 n2 c2) (.slice a3 m3 c3) (.slice a4 m4 c4) rfl rfl rfl rfl rfl);have gZ:Hid (1=0∨∃A,(some (⟨wx.heap.size,0,none⟩:Addr))=some A∧∀j u,([.slice a0 n0 c0,.slice a1 n1 c1,.slice a2 n2 c2,.slice a3 m3 c3,.slice a4 m4 c4]:List Value)[j]?=some u->(wx.alloc (.cells #[.slice a0 n0 c0,.slice a1 n1 c1,.slice a2 n2 c2,.slice a3 m3 c3,.slice a4 m4 c4] 51)).cell? (A.add j)=some u):=.inr ⟨_,rfl,aC.out⟩;obtain⟨xs,bS⟩:∃xs,xs=pH M:=⟨_,rfl⟩;have fJ:=aD bS;rw[← bS] at b1;have U:=aD b2;clear F eA e9 i3 i1 e7 e5 i6 eO bB e e2 q b2 eT bS aC bP gV gN
         go_wp2_with (at_builtin; refine iN rfl _ _ 24 rfl (pb+1) 51 (.agg #[.slice none 0 0,.slice none 0 0,.slice none 0 0,.slice none 0 0,.slice none 0 0]) 5 120 Tryz.underlying24 EM rfl (by decide) (.slice ay B cy) B xs rfl b1.out (some ⟨wx.heap.size,0,none⟩) 1 1 [.slice a0 n0 c0,.slice a1 n1 c1,.slice a2 n2 c2,.slice a3 m3 c3,.slice a4 m4 c4] rfl rfl gZ.out cP.out f3.out f4.out HZ.out ?_)
         intro u5 w9 I b9;obtain⟨a9,c9,rfl⟩:=zag I;rw[fJ.out] at I;obtain⟨d1,d2,d3,d4⟩:=U.out.done eH.out b0.out b9 I (by rw[aX.out]);have y9:w9.cell? ⟨pb,2,none⟩=some (.slice ay B cy):=d1.plan.cell (i:=2) (by omega);have z9:=d1.plan.frozen 2;have eU:=aD (d2.mono (L:=K+20+100*(5-(kw-1))) (by have:=iP.out; omega));have eV:=aD d3;have eX:=aD d4
         have eY:Hid (∀z∈M++[((⟨.slice a0 n0 c0,.slice a1 n1 c1,.slice a2 n2 c2,.slice a3 m3 c3,.slice a4 m4 c4⟩:eK),(⟨l0,li,fl,cC,cB⟩:aT))],dG (n:Int) l z.2):=fun z hz=>by
          rcases List.mem_append.1 hz with h | h
          ·exact cM.out z h
          ·rw[List.mem_singleton.1 h]; exact gT.out
         clear d1 d2 d3 d4 I b9 b1 gZ cP U q0 q1 q2 q3 q4 p2;go_wp2;go_roundw
         case rel=>exact⟨kw-1,_,_,_,by have:=aX.out; rw[List.length_append,List.length_singleton]; omega,by rw[List.length_append,List.length_singleton]; omega,by go_num,eU.out,eV.out,eX.out,eY.out,by rw[List.map_append]; exact (mF hz jA.out).trans gH.out⟩
         case measure=>simp[intOf]; omega
    ·have eE:decide ((0:Int)<(kw:Int))=false:=decide_eq_false (by omega);obtain⟨B,bB⟩:∃m,m=M.length:=⟨_,rfl⟩
     have i9:B<=5:=by omega
     have k9:1<=B:=by omega
     obtain⟨gy,cy,e,kG,-,cU⟩:=uY dE.own (by omega);rw[← bB] at e;subst e;have gJ:Hid (∀i x,M[i]?=some x->wv.cell? ⟨gy,i*5,none⟩=some x.1.v0):=fun i x hx=>cU _ _ (Ap M i x hx).1;have HP:=aD (hP.mono (L:=K+600) (by omega))
     have j7:Hid (fB D n l (k5+1) [] j5=(M.map Prod.snd,jw)):=by
      show _=_;rw[← gH.out,show kw=0 by omega];rfl
     have jE:=aD T;have b0:=aD dE;have cM:=aD eC;have aX:=aD bB;have p2:wv.cell? ⟨pb,2,none⟩=some (.slice (some ⟨gy,0,none⟩) B cy):=hP.plan.cell (i:=2) (by omega);have jK:pb<wv.heap.size:=hP.plan.lt;clear hP T dE eC bB cU jL iJ;go_wp2
     go_loopw [120] (fun z wr=>∃(i:Nat) (b:Value) (rs:List (Value×List Bool)) (jb:Nat),i<=B∧z=.int .i64 (i:Int)∧rs.length=i∧gA w R pb ⟨K+600+10*i,jb,D⟩ (n:Int) (ho:Int) wr (.slice al O ca) (.slice (some ⟨gy,0,none⟩) B cy) b∧But (fun c=>pb<c) wv wr∧gE wr wv.heap.size b rs∧gK (M.map Prod.snd) (rs.map Prod.snd)∧eL D (M.map Prod.snd) B (B-i) (rs.map Prod.snd) jb=eL D (M.map Prod.snd) B B [] jw) (fun z _=>B-(intOf z).toNat)
     case atStart=>exact⟨0,_,[],jw,by omega,rfl,rfl,HP.out,But.refl _ _,⟨World.ownsRow_nil _ _ _ _,fun _ h=>by cases h⟩,(fun i r h=>by cases h),rfl⟩
     case round=>
      obtain⟨i,b,rs,jb,hi,rfl,eB,hP,cV,d8,dT,hM⟩:=hrel;have gC:=aD hM;clear hM;rename World=>E;clear HP p2;obtain⟨ab,aK,e⟩:=zag d8.own;rw[eB] at e;subst e;have bJ:=aD eB;by_cases bP:i<B
      ·have eM:decide ((i:Int)<(B:Int))=true:=decide_eq_true (by omega);have e6:=run_make_row' (P:=Tryz.prog) 36 4 (.bool false) 1 Tryz.underlying36 Tryz.bZ rfl .i64 .i64 B (by omega) (by omega);have p2:E.cell? ⟨pb,2,none⟩=some (.slice (some ⟨gy,0,none⟩) B cy):=hP.plan.cell (i:=2) (by omega);have q:=bC E (.cells (madeCells #[.bool false] B) 4);have fS:kT w E R pb E.heap.size (n:Int) (ho:Int) (.slice al O ca) (.slice (some ⟨gy,0,none⟩) B cy) (.slice ab i aK) B ⟨K+600+10*i,jb,D⟩ (E.alloc (.cells (madeCells #[.bool false] B) 4)) (fun _=>false):=⟨hP.far (Q:=fun _=>True) (But.aG q) fun _ _=>trivial,But.aG q,World.rowIs_made E _ B _,rfl,hP.plan.lt⟩;have jP:(E.alloc (.cells (madeCells #[.bool false] B) 4)).cell? ⟨pb,2,none⟩=some (.slice (some ⟨gy,0,none⟩) B cy):=fS.pl.plan.cell (i:=2) (by omega);have dL:=aD fS;have aV:=aD cV;have cI:=aD d8;have dF:=aD dT;have iH:wv.heap.size<=E.heap.size:=cV.size;clear q fS hP cV d8 dT eB;go_wp2;obtain⟨W6,aM⟩:∃W,W=E.alloc (.cells (madeCells #[.bool false] B) 4):=⟨_,rfl⟩;rw[← aM] at dL ⊢;obtain⟨rb,hrb⟩:∃r,r=E.heap.size:=⟨_,rfl⟩;rw[← hrb] at dL iH ⊢;have kA:=aD hrb;clear aM hrb e6 p2 jP
       go_loopw [130] (fun z wq=>∃(k:Nat) (f:Nat->Bool) (jk:Nat),k<=B∧z=.int .i64 (k:Int)∧kT w E R pb rb (n:Int) (ho:Int) (.slice al O ca) (.slice (some ⟨gy,0,none⟩) B cy) (.slice ab i aK) B ⟨K+600+10*i+2*k,jk,D⟩ wq f∧eS D (M.map Prod.snd) (rs.map Prod.snd) i (B-k) k f jk=eS D (M.map Prod.snd) (rs.map Prod.snd) i B 0 (fun _=>false) jb∧∀j,j<k->(j<i->((rs.map Prod.snd)[j]?).bind (fun x=>x[i]?)=some (f j))∧(i<=j->∀x y,(M.map Prod.snd)[i]?=some x->(M.map Prod.snd)[j]?=some y->Meet x.aA y.aA->f j=true)) (fun z _=>B-(intOf z).toNat)
       case atStart=>exact⟨0,_,jb,by omega,rfl,dL.out,rfl,fun j hj=>absurd hj (by omega)⟩
       case round=>
        obtain⟨k,f,jk,hk,rfl,hR,aF,hf⟩:=hrel;have cD:=aD aF;clear aF;rename World=>wq;clear dL;have HF:=aD hf;clear hf;by_cases Y:k<B
        ·have g0:decide ((k:Int)<(B:Int))=true:=decide_eq_true (by omega)
         have eQ:∀(W:World) (v:Bool) (K' J:Nat),K'<=K+600+10*i+2*k+2->kT w E R pb rb (n:Int) (ho:Int) (.slice al O ca) (.slice (some ⟨gy,0,none⟩) B cy) (.slice ab i aK) B ⟨K',J,D⟩ W f->((k<i->((rs.map Prod.snd)[k]?).bind (fun x=>x[i]?)=some v)∧(i<=k->∀x y,(M.map Prod.snd)[i]?=some x->(M.map Prod.snd)[k]?=some y->Meet x.aA y.aA->v=true))->kT w E R pb rb (n:Int) (ho:Int) (.slice al O ca) (.slice (some ⟨gy,0,none⟩) B cy) (.slice ab i aK) B ⟨K+600+10*i+2*(k+1),J,D⟩ (W.setCell ⟨rb,k,none⟩ (.bool v)) (fun j=>if j=k then v else f j)∧∀j,j<k+1->(j<i->((rs.map Prod.snd)[j]?).bind (fun x=>x[i]?)=some (if j=k then v else f j))∧(i<=j->∀x y,(M.map Prod.snd)[i]?=some x->(M.map Prod.snd)[j]?=some y->Meet x.aA y.aA->(if j=k then v else f j)=true):=fun W v K' J kF F hv=>⟨(F.put k v).mono (by omega),fun j hj=>by
          by_cases e:j=k
          ·subst e;rw[if_pos rfl];exact hv
          ·rw[if_neg e]
           exact HF.out j (by omega)⟩
         have aH:=aD eQ;clear eQ;have r0:=hR.row.cell (i:=k) Y;have z0:=hR.row.frozen k;by_cases bO:k<i
         ·have hY:decide ((k:Int)<(i:Int))=true:=decide_eq_true (by omega);obtain⟨x,hx⟩:=bG rs bJ bO;have eD:=(dF.out k x.2 (by rw[List.getElem?_map,hx]; rfl)).1;rw[List.length_map,← aX.out] at eD;obtain⟨bv,dV⟩:=bG x.2 (aD eD) bP;obtain⟨g,kD,g2,jR,e,hc1,hc2⟩:=(cI.out.far hR.kp fun c hc _=>by omega).cell hx dV;rw[bJ.out] at e
          cases e
          rw[eD] at hc1;have p3:wq.cell? ⟨pb,3,none⟩=some (.slice (some ⟨g,0,none⟩) i aK):=hR.pl.plan.cell (i:=3) (by omega)
          have jZ:(k:Int)<(i:Int):=by omega
          have hX:(i:Int)<(B:Int):=by omega
          have hZ:(k:Int)<(B:Int):=by omega
          have aO:=aD (aH.out wq bv _ _ (by omega) hR ⟨fun _=>by rw[List.getElem?_map,hx]; exact dV,fun h=>absurd h (by omega)⟩);have HC:=aD (fA (f:=f) Y (oT (z:=D) (ds:=M.map Prod.snd) (rows:=rs.map Prod.snd) (j:=jk) bO (show ((rs.map Prod.snd)[k]?).bind (fun x=>x[i]?)=some bv by rw[List.getElem?_map,hx]; exact dV)));clear hR hx dV aH eD;go_wp2;go_roundw
          case rel=>exact⟨k+1,_,_,by omega,by go_num,aO.out.1,HC.out.trans cD.out,aO.out.2⟩
          case measure=>simp[intOf]; omega
         ·have hY:decide ((k:Int)<(i:Int))=false:=decide_eq_false (by omega);obtain⟨xi,c8⟩:=bG M (aD aX.out.symm) bP;obtain⟨xk,cA⟩:=bG M (aD aX.out.symm) Y;obtain⟨ai,ci,ei⟩:=zag (b0.out.aB xi (List.mem_of_getElem? c8)).s0;obtain⟨ak,ck,ek⟩:=zag (b0.out.aB xk (List.mem_of_getElem? cA)).s0;have i2:xi.2.aA.length<=30:=(cM.out xi (List.mem_of_getElem? c8)).2.1.2;have cY:xk.2.aA.length<=30:=(cM.out xk (List.mem_of_getElem? cA)).2.1.2;have g5:∀W,But (fun c=>pb<c) wv W->Ints (In W) W xi.1.v0 xi.2.aA:=fun W F=>(oF ((b0.out.far F fun c hc _=>by omega).aB xi (List.mem_of_getElem? c8)).s0).2.keep (hU _ _) fun b hb=>hb.2;have g6:∀W,But (fun c=>pb<c) wv W->Ints (In W) W xk.1.v0 xk.2.aA:=fun W F=>(oF ((b0.out.far F fun c hc _=>by omega).aB xk (List.mem_of_getElem? cA)).s0).2.keep (hU _ _) fun b hb=>hb.2;have fY:=gJ.out i xi c8;have fZ:=gJ.out k xk cA;obtain⟨mi,i4⟩:∃m,m=xi.2.aA.length:=⟨_,rfl⟩;obtain⟨mk,e6⟩:∃m,m=xk.2.aA.length:=⟨_,rfl⟩;rw[← i4] at ei;rw[← e6] at ek;rw[ei] at fY g5;rw[ek] at fZ g6
          have hZ:(k:Int)<(B:Int):=by omega
          have hX:(i:Int)<(B:Int):=by omega
          have aR:∀W K',kT w E R pb rb (n:Int) (ho:Int) (.slice al O ca) (.slice (some ⟨gy,0,none⟩) B cy) (.slice ab i aK) B K' W f->W.cell? ⟨pb,2,none⟩=some (.slice (some ⟨gy,0,none⟩) B cy)∧W.cell? ⟨gy,i*5,none⟩=some (.slice ai mi ci)∧W.cell? ⟨gy,k*5,none⟩=some (.slice ak mk ck):=fun W K' F=>⟨F.pl.plan.cell (i:=2) (by omega),(aV.out.trans F.kp).cell fY (show pb<gy by omega),(aV.out.trans F.kp).cell fZ (show pb<gy by omega)⟩;have KS:=aD aR;have cJ:=aD g5;have cK:=aD g6;have HR:=aD hR;have fH:=aD c8;have fI:=aD cA;have gL:=aD i2;have gM:=aD cY;clear aR g5 g6 hR c8 cA fY fZ ei ek i4 e6 i2 cY r0 z0
          go_upto_region 34 with fail
          refine mV (S:=fun W=>W.cell? ⟨pb,2,none⟩=some (.slice (some ⟨gy,0,none⟩) B cy)∧W.cell? ⟨gy,i*5,none⟩=some (.slice ai mi ci)∧W.cell? ⟨gy,k*5,none⟩=some (.slice ak mk ck)) 26 (by kernel_rfl) (KS.out _ _ (HR.out.call (cT _))) (fun a=>?_);have fT:=HR.out.call (cT wq);obtain⟨wD,bI⟩:∃W,W=wq.drew:=⟨_,rfl⟩;rw[← bI] at a fT ⊢;have Z:=aD fT;clear bI HR fT;by_cases dW:i=k
          ·have hV:((i:Int) == (k:Int))=true:=by rw[dW]; simp
           have iO:=aD dW;clear dW;refine bM (v:=?vp0) At.z (by kernel_rfl) (fun _ _ _ h=>h) rfl ?hp0 a ?_
           case hp0=>intro _ s;(try dsimp only at s);go_simp;try with_reducible rfl
           try simp only[Act.put,sA,sB,sC]
           refine bM (v:=?vp1) At.z.s (by kernel_rfl) (fun _ _ _ h=>h) rfl ?hp1 a ?_
           case hp1=>intro _ s;(try dsimp only at s);go_simp;try with_reducible rfl
           try simp only[Act.put,sA,sB,sC]
           refine bM (v:=?vp2) At.z.s.s (by kernel_rfl) (fun _ _ _ h=>h) rfl ?hp2 a ?_
           case hp2=>intro _ s;(try dsimp only at s);go_simp;try with_reducible rfl
           try simp only[Act.put,sA,sB,sC]
           refine bM (v:=?vp3) At.z.s.s.s (by kernel_rfl) (fun _ _ _ h=>h) rfl ?hp3 a ?_
           case hp3=>intro _ s;(try dsimp only at s);go_simp;try with_reducible rfl
           try simp only[Act.put,sA,sB,sC]
           refine bM (v:=?vp4) At.z.s.s.s.s (by kernel_rfl) (fun _ _ _ h=>h) rfl ?hp4 a ?_
           case hp4=>intro _ s;(try dsimp only at s);go_simp;try with_reducible rfl
           try simp only[Act.put,sA,sB,sC]
           refine bM (v:=?vp5) At.z.f (by kernel_rfl) (fun _ _ _ h=>h) rfl ?hp5 a ?_
           case hp5=>intro _ s;(try dsimp only at s);go_simp;try with_reducible rfl
           try simp only[Act.put,sA,sB,sC]
           refine mS At.z.f.s (by kernel_rfl) (fun _ _ _ h=>h) (by kernel_rfl) a ?_
           try simp only[Act.put,sA,sB,sC]
           refine mS At.z.f.s.s (by kernel_rfl) (fun _ _ _ h=>h) (by kernel_rfl) a ?_
           try simp only[Act.put,sA,sB,sC]
           refine mS At.z.f.s.s.s (by kernel_rfl) (fun _ _ _ h=>h) (by kernel_rfl) a ?_
           try simp only[Act.put,sA,sB,sC]
           refine mS At.z.f.s.s.s.s (by kernel_rfl) (fun _ _ _ h=>h) (by kernel_rfl) a ?_
           try simp only[Act.put,sA,sB,sC]
           refine mS At.z.f.f (by kernel_rfl) (fun _ _ _ h=>h) (by kernel_rfl) a ?_
           try simp only[Act.put,sA,sB,sC]
           refine mS At.z.f.f.s (by kernel_rfl) (fun _ _ _ h=>h) (by kernel_rfl) a ?_
           try simp only[Act.put,sA,sB,sC]
           refine mS At.z.f.f.s.s (by kernel_rfl) (fun _ _ _ h=>h) (by kernel_rfl) a ?_
           try simp only[Act.put,sA,sB,sC]
           refine mS At.z.f.f.s.s.s (by kernel_rfl) (fun _ _ _ h=>h) (by kernel_rfl) a ?_
           try simp only[Act.put,sA,sB,sC]
           refine mS At.z.f.f.s.s.s.s (by kernel_rfl) (fun _ _ _ h=>h) (by kernel_rfl) a ?_
           try simp only[Act.put,sA,sB,sC]
           refine mS At.z.f.f.f (by kernel_rfl) (fun _ _ _ h=>h) (by kernel_rfl) a ?_
           try simp only[Act.put,sA,sB,sC]
           refine mS At.z.f.f.f.s (by kernel_rfl) (fun _ _ _ h=>h) (by kernel_rfl) a ?_
           try simp only[Act.put,sA,sB,sC]
           refine mS At.z.f.f.f.s.s (by kernel_rfl) (fun _ _ _ h=>h) (by kernel_rfl) a ?_
           try simp only[Act.put,sA,sB,sC]
           refine dX (i:=18) At.z.f.f.f.s.s.s (by kernel_rfl) (fun V d=>?_);rw[if_neg (by rw[show Region.wanted _ _=false by kernel_rfl]; decide)];refine d.out _ _ a ?_;clear d V
           try simp only[Act.put,sA,sB,sC]
           refine bM (v:=?vp19) At.z.f.f.f.s.s.s.s (by kernel_rfl) (fun _ _ _ h=>h) rfl ?hp19 a ?_
           case hp19=>intro _ s;(try dsimp only at s);go_simp;try with_reducible rfl
           try simp only[Act.put,sA,sB,sC]
           refine bM (v:=?vp20) At.z.f.f.f.f (by kernel_rfl) (fun _ _ _ h=>h) rfl ?hp20 a ?_
           case hp20=>intro _ s;(try dsimp only at s);go_simp;try with_reducible rfl
           try simp only[Act.put,sA,sB,sC]
           refine mS At.z.f.f.f.f.s (by kernel_rfl) (fun _ _ _ h=>h) (by kernel_rfl) a ?_
           try simp only[Act.put,sA,sB,sC]
           refine dX (i:=22) At.z.f.f.f.f.s.s (by kernel_rfl) (fun V d=>?_);rw[if_neg (by rw[show Region.wanted _ _=false by kernel_rfl]; decide)];refine d.out _ _ a ?_;clear d V
           try simp only[Act.put,sA,sB,sC]
           refine mS At.z.f.f.f.f.s.s.s (by kernel_rfl) (fun _ _ _ h=>h) (by kernel_rfl) a ?_
           try simp only[Act.put,sA,sB,sC]
           refine bM (v:=?vp24) At.z.f.f.f.f.s.s.s.s (by kernel_rfl) (fun _ _ _ h=>h) rfl ?hp24 a ?_
           case hp24=>intro _ s;(try dsimp only at s);go_simp;try with_reducible rfl
           try simp only[Act.put,sA,sB,sC]
           refine bM (v:=?vp25) At.z.f.f.f.f.f (by kernel_rfl) (fun _ _ _ h=>h) rfl ?hp25 a ?_
           case hp25=>intro _ s;(try dsimp only at s);go_simp;try with_reducible rfl
           try simp only[Act.put,sA,sB,sC]
           clear a;refine iQ At.z.f.f.f.f.f.s (by kernel_rfl) (by kernel_rfl) (fun V d=>?_);have r1:=Z.out.row.cell (i:=k) Y;have z1:=Z.out.row.frozen k;have aO:=aD (aH.out wD true _ _ (by omega) Z.out ⟨fun h=>absurd h bO,fun _ _ _ _ _ _=>rfl⟩);have HC:=aD (fA (f:=f) Y (nE (z:=D) (ds:=M.map Prod.snd) (rows:=rs.map Prod.snd) (j:=jk) iO.out));clear Z aH KS cJ cK;go_simp;refine d.out _ _ ?_;clear d V r1 z1
           try simp only[Act.put,sA,sB,sC]
           skip
           go_wp2
           skip
           go_roundw
           skip
           case rel=>exact⟨k+1,_,_,by omega,by go_num,aO.out.1,HC.out.trans cD.out,aO.out.2⟩
           case measure=>simp[intOf]; omega
          ·have hV:((i:Int) == (k:Int))=false:=by simp; omega
           have eF:=aD dW;by_cases hm:Meet xi.2.aA xk.2.aA
           ·skip
            refine bM (v:=?vq0) At.z (by kernel_rfl) (fun _ _ _ h=>h) rfl ?hq0 a ?_
            case hq0=>intro _ s;(try dsimp only at s);go_simp;try with_reducible rfl
            try simp only[Act.put,sA,sB,sC]
            refine bM (v:=?vq1) At.z.s (by kernel_rfl) (fun _ _ _ h=>h) rfl ?hq1 a ?_
            case hq1=>intro _ s;(try dsimp only at s);go_simp;try with_reducible rfl
            try simp only[Act.put,sA,sB,sC]
            refine bM (v:=?vq2) At.z.s.s (by kernel_rfl) (fun _ _ _ h=>h) rfl ?hq2 a ?_
            case hq2=>intro _ s;(try dsimp only at s);go_simp;try with_reducible rfl
            try simp only[Act.put,sA,sB,sC]
            refine bM (v:=?vq3) At.z.s.s.s (by kernel_rfl) (fun _ _ _ h=>h) rfl ?hq3 a ?_
            case hq3=>intro _ s;(try dsimp only at s);go_simp;try with_reducible rfl
            try simp only[Act.put,sA,sB,sC]
            refine bM (v:=?vq4) At.z.s.s.s.s (by kernel_rfl) (fun _ _ _ h=>h) rfl ?hq4 a ?_
            case hq4=>intro _ s;(try dsimp only at s);go_simp;try with_reducible rfl
            try simp only[Act.put,sA,sB,sC]
            refine bM (v:=?vq5) At.z.f (by kernel_rfl) (fun _ _ _ h=>h) rfl ?hq5 a ?_
            case hq5=>intro _ s;(try dsimp only at s);go_simp;try with_reducible rfl
            try simp only[Act.put,sA,sB,sC]
            refine iM (v:=?vq6) At.z.f.s (by kernel_rfl) (fun _ _ _ h=>h) (by kernel_rfl) ?hq6 a ?_
            case hq6=>intro _ s;(try dsimp only at s);go_simp;try with_reducible rfl
            try simp only[Act.put,sA,sB,sC]
            refine iM (v:=?vq7) At.z.f.s.s (by kernel_rfl) (fun _ _ _ h=>h) (by kernel_rfl) ?hq7 a ?_
            case hq7=>intro _ s;(try dsimp only at s);go_simp;try with_reducible rfl
            try simp only[Act.put,sA,sB,sC]
            refine iM (v:=?vq8) At.z.f.s.s.s (by kernel_rfl) (fun _ _ _ h=>h) (by kernel_rfl) ?hq8 a ?_
            case hq8=>intro _ s;(try dsimp only at s);go_simp;try with_reducible rfl
            try simp only[Act.put,sA,sB,sC]
            refine iM (v:=?vq9) At.z.f.s.s.s.s (by kernel_rfl) (fun _ _ _ h=>h) (by kernel_rfl) ?hq9 a ?_
            case hq9=>intro _ s;(try dsimp only at s);go_simp;try with_reducible rfl
            try simp only[Act.put,sA,sB,sC]
            refine iM (v:=?vq10) At.z.f.f (by kernel_rfl) (fun _ _ _ h=>h) (by kernel_rfl) ?hq10 a ?_
            case hq10=>intro _ s;(try dsimp only at s);go_simp;try with_reducible rfl
            try simp only[Act.put,sA,sB,sC]
            refine iM (v:=?vq11) At.z.f.f.s (by kernel_rfl) (fun _ _ _ h=>h) (by kernel_rfl) ?hq11 a ?_
            case hq11=>intro _ s;(try dsimp only at s);go_simp;try with_reducible rfl
            try simp only[Act.put,sA,sB,sC]
            refine iM (v:=?vq12) At.z.f.f.s.s (by kernel_rfl) (fun _ _ _ h=>h) (by kernel_rfl) ?hq12 a ?_
            case hq12=>intro _ s;(try dsimp only at s);go_simp;try with_reducible rfl
            try simp only[Act.put,sA,sB,sC]
            refine iM (v:=?vq13) At.z.f.f.s.s.s (by kernel_rfl) (fun _ _ _ h=>h) (by kernel_rfl) ?hq13 a ?_
            case hq13=>intro _ s;(try dsimp only at s);go_simp;try with_reducible rfl
            try simp only[Act.put,sA,sB,sC]
            refine iM (v:=?vq14) At.z.f.f.s.s.s.s (by kernel_rfl) (fun _ _ _ h=>h) (by kernel_rfl) ?hq14 a ?_
            case hq14=>intro _ s;(try dsimp only at s);go_simp;try with_reducible rfl
            try simp only[Act.put,sA,sB,sC]
            refine iM (v:=?vq15) At.z.f.f.f (by kernel_rfl) (fun _ _ _ h=>h) (by kernel_rfl) ?hq15 a ?_
            case hq15=>intro _ s;(try dsimp only at s);go_simp;try with_reducible rfl
            try simp only[Act.put,sA,sB,sC]
            refine iM (v:=?vq16) At.z.f.f.f.s (by kernel_rfl) (fun _ _ _ h=>h) (by kernel_rfl) ?hq16 a ?_
            case hq16=>intro _ s;(try dsimp only at s);go_simp;try with_reducible rfl
            try simp only[Act.put,sA,sB,sC]
            refine iM (v:=?vq17) At.z.f.f.f.s.s (by kernel_rfl) (fun _ _ _ h=>h) (by kernel_rfl) ?hq17 a ?_
            case hq17=>intro _ s;(try dsimp only at s);go_simp;try with_reducible rfl
            try simp only[Act.put,sA,sB,sC]
            refine dX (i:=18) At.z.f.f.f.s.s.s (by kernel_rfl) (fun V d=>?_);rw[if_pos (by kernel_rfl)];go_simp;refine (tH _ _ xi.2.aA xk.2.aA wD (cJ.out _ (aV.out.trans Z.out.kp)) (cK.out _ (aV.out.trans Z.out.kp)) (by have:=gL.out; omega) (by have:=gM.out; omega)).mono ?_;rintro e w3 ⟨rfl,bF⟩;have bH:=bF.symm;subst bH;clear bF;rw[bQ hm];refine d.out _ _ a ?_;clear d V
            try simp only[Act.put,sA,sB,sC]
            refine bM (v:=?vq19) At.z.f.f.f.s.s.s.s (by kernel_rfl) (fun _ _ _ h=>h) rfl ?hq19 a ?_
            case hq19=>intro _ s;(try dsimp only at s);go_simp;try with_reducible rfl
            try simp only[Act.put,sA,sB,sC]
            refine bM (v:=?vq20) At.z.f.f.f.f (by kernel_rfl) (fun _ _ _ h=>h) rfl ?hq20 a ?_
            case hq20=>intro _ s;(try dsimp only at s);go_simp;try with_reducible rfl
            try simp only[Act.put,sA,sB,sC]
            refine mS At.z.f.f.f.f.s (by kernel_rfl) (fun _ _ _ h=>h) (by kernel_rfl) a ?_
            try simp only[Act.put,sA,sB,sC]
            refine dX (i:=22) At.z.f.f.f.f.s.s (by kernel_rfl) (fun V d=>?_);rw[if_neg (by rw[show Region.wanted _ _=false by kernel_rfl]; decide)];refine d.out _ _ a ?_;clear d V
            try simp only[Act.put,sA,sB,sC]
            refine mS At.z.f.f.f.f.s.s.s (by kernel_rfl) (fun _ _ _ h=>h) (by kernel_rfl) a ?_
            try simp only[Act.put,sA,sB,sC]
            refine bM (v:=?vq24) At.z.f.f.f.f.s.s.s.s (by kernel_rfl) (fun _ _ _ h=>h) rfl ?hq24 a ?_
            case hq24=>intro _ s;(try dsimp only at s);go_simp;try with_reducible rfl
            try simp only[Act.put,sA,sB,sC]
            refine bM (v:=?vq25) At.z.f.f.f.f.f (by kernel_rfl) (fun _ _ _ h=>h) rfl ?hq25 a ?_
            case hq25=>intro _ s;(try dsimp only at s);go_simp;try with_reducible rfl
            try simp only[Act.put,sA,sB,sC]
            clear a;refine iQ At.z.f.f.f.f.f.s (by kernel_rfl) (by kernel_rfl) (fun V d=>?_);have r1:=Z.out.row.cell (i:=k) Y;have z1:=Z.out.row.frozen k;have aO:=aD (aH.out wD true _ _ (by omega) Z.out ⟨fun h=>absurd h bO,fun _ _ _ _ _ _=>rfl⟩);have HC:=aD (fA (f:=f) Y (nC (z:=D) (ds:=M.map Prod.snd) (rows:=rs.map Prod.snd) (j:=jk) bO eF.out (by rw[List.getElem?_map,fH.out]; rfl) (by rw[List.getElem?_map,fI.out]; rfl) hm));clear Z aH KS cJ cK;go_simp;refine d.out _ _ ?_;clear d V r1 z1
            try simp only[Act.put,sA,sB,sC]
            skip
            go_wp2
            skip
            go_roundw
            skip
            case rel=>exact⟨k+1,_,_,by omega,by go_num,aO.out.1,HC.out.trans cD.out,aO.out.2⟩
            case measure=>simp[intOf]; omega
           ·skip
            refine bM (v:=?vr0) At.z (by kernel_rfl) (fun _ _ _ h=>h) rfl ?hr0 a ?_
            case hr0=>intro _ s;(try dsimp only at s);go_simp;try with_reducible rfl
            try simp only[Act.put,sA,sB,sC]
            refine bM (v:=?vr1) At.z.s (by kernel_rfl) (fun _ _ _ h=>h) rfl ?hr1 a ?_
            case hr1=>intro _ s;(try dsimp only at s);go_simp;try with_reducible rfl
            try simp only[Act.put,sA,sB,sC]
            refine bM (v:=?vr2) At.z.s.s (by kernel_rfl) (fun _ _ _ h=>h) rfl ?hr2 a ?_
            case hr2=>intro _ s;(try dsimp only at s);go_simp;try with_reducible rfl
            try simp only[Act.put,sA,sB,sC]
            refine bM (v:=?vr3) At.z.s.s.s (by kernel_rfl) (fun _ _ _ h=>h) rfl ?hr3 a ?_
            case hr3=>intro _ s;(try dsimp only at s);go_simp;try with_reducible rfl
            try simp only[Act.put,sA,sB,sC]
            refine bM (v:=?vr4) At.z.s.s.s.s (by kernel_rfl) (fun _ _ _ h=>h) rfl ?hr4 a ?_
            case hr4=>intro _ s;(try dsimp only at s);go_simp;try with_reducible rfl
            try simp only[Act.put,sA,sB,sC]
            refine bM (v:=?vr5) At.z.f (by kernel_rfl) (fun _ _ _ h=>h) rfl ?hr5 a ?_
            case hr5=>intro _ s;(try dsimp only at s);go_simp;try with_reducible rfl
            try simp only[Act.put,sA,sB,sC]
            refine iM (v:=?vr6) At.z.f.s (by kernel_rfl) (fun _ _ _ h=>h) (by kernel_rfl) ?hr6 a ?_
            case hr6=>intro _ s;(try dsimp only at s);go_simp;try with_reducible rfl
            try simp only[Act.put,sA,sB,sC]
            refine iM (v:=?vr7) At.z.f.s.s (by kernel_rfl) (fun _ _ _ h=>h) (by kernel_rfl) ?hr7 a ?_
            case hr7=>intro _ s;(try dsimp only at s);go_simp;try with_reducible rfl
            try simp only[Act.put,sA,sB,sC]
            refine iM (v:=?vr8) At.z.f.s.s.s (by kernel_rfl) (fun _ _ _ h=>h) (by kernel_rfl) ?hr8 a ?_
            case hr8=>intro _ s;(try dsimp only at s);go_simp;try with_reducible rfl
            try simp only[Act.put,sA,sB,sC]
            refine iM (v:=?vr9) At.z.f.s.s.s.s (by kernel_rfl) (fun _ _ _ h=>h) (by kernel_rfl) ?hr9 a ?_
            case hr9=>intro _ s;(try dsimp only at s);go_simp;try with_reducible rfl
            try simp only[Act.put,sA,sB,sC]
            refine iM (v:=?vr10) At.z.f.f (by kernel_rfl) (fun _ _ _ h=>h) (by kernel_rfl) ?hr10 a ?_
            case hr10=>intro _ s;(try dsimp only at s);go_simp;try with_reducible rfl
            try simp only[Act.put,sA,sB,sC]
            refine iM (v:=?vr11) At.z.f.f.s (by kernel_rfl) (fun _ _ _ h=>h) (by kernel_rfl) ?hr11 a ?_
            case hr11=>intro _ s;(try dsimp only at s);go_simp;try with_reducible rfl
            try simp only[Act.put,sA,sB,sC]
            refine iM (v:=?vr12) At.z.f.f.s.s (by kernel_rfl) (fun _ _ _ h=>h) (by kernel_rfl) ?hr12 a ?_
            case hr12=>intro _ s;(try dsimp only at s);go_simp;try with_reducible rfl
            try simp only[Act.put,sA,sB,sC]
            refine iM (v:=?vr13) At.z.f.f.s.s.s (by kernel_rfl) (fun _ _ _ h=>h) (by kernel_rfl) ?hr13 a ?_
            case hr13=>intro _ s;(try dsimp only at s);go_simp;try with_reducible rfl
            try simp only[Act.put,sA,sB,sC]
            refine iM (v:=?vr14) At.z.f.f.s.s.s.s (by kernel_rfl) (fun _ _ _ h=>h) (by kernel_rfl) ?hr14 a ?_
            case hr14=>intro _ s;(try dsimp only at s);go_simp;try with_reducible rfl
            try simp only[Act.put,sA,sB,sC]
            refine iM (v:=?vr15) At.z.f.f.f (by kernel_rfl) (fun _ _ _ h=>h) (by kernel_rfl) ?hr15 a ?_
            case hr15=>intro _ s;(try dsimp only at s);go_simp;try with_reducible rfl
            try simp only[Act.put,sA,sB,sC]
            refine iM (v:=?vr16) At.z.f.f.f.s (by kernel_rfl) (fun _ _ _ h=>h) (by kernel_rfl) ?hr16 a ?_
            case hr16=>intro _ s;(try dsimp only at s);go_simp;try with_reducible rfl
            try simp only[Act.put,sA,sB,sC]
            refine iM (v:=?vr17) At.z.f.f.f.s.s (by kernel_rfl) (fun _ _ _ h=>h) (by kernel_rfl) ?hr17 a ?_
            case hr17=>intro _ s;(try dsimp only at s);go_simp;try with_reducible rfl
            try simp only[Act.put,sA,sB,sC]
            refine dX (i:=18) At.z.f.f.f.s.s.s (by kernel_rfl) (fun V d=>?_);rw[if_pos (by kernel_rfl)];go_simp;refine (tH _ _ xi.2.aA xk.2.aA wD (cJ.out _ (aV.out.trans Z.out.kp)) (cK.out _ (aV.out.trans Z.out.kp)) (by have:=gL.out; omega) (by have:=gM.out; omega)).mono ?_;rintro e w3 ⟨rfl,bF⟩;have bH:=bF.symm;subst bH;clear bF;rw[bE hm];refine d.out _ _ a ?_;clear d V
            try simp only[Act.put,sA,sB,sC]
            refine bM (v:=?vr19) At.z.f.f.f.s.s.s.s (by kernel_rfl) (fun _ _ _ h=>h) rfl ?hr19 a ?_
            case hr19=>intro _ s;(try dsimp only at s);go_simp;try with_reducible rfl
            try simp only[Act.put,sA,sB,sC]
            refine bM (v:=?vr20) At.z.f.f.f.f (by kernel_rfl) (fun _ _ _ h=>h) rfl ?hr20 a ?_
            case hr20=>intro _ s;(try dsimp only at s);go_simp;try with_reducible rfl
            try simp only[Act.put,sA,sB,sC]
            refine iM (v:=?vr21) At.z.f.f.f.f.s (by kernel_rfl) (fun _ _ _ h=>h) (by kernel_rfl) ?hr21 a ?_
            case hr21=>intro _ s;(try dsimp only at s);go_simp;try with_reducible rfl
            try simp only[Act.put,sA,sB,sC]
            clear a;refine dX (i:=22) At.z.f.f.f.f.s.s (by kernel_rfl) (fun V d=>?_);rw[if_pos (by kernel_rfl)];go_simp;refine (bA D R _ _ 4 _ Z.out.pl.cur (by omega) (by omega)).mono ?_;rintro e wE ⟨r,rfl,hr,jr,hJ,h9,N⟩;have cH:=aD N;clear N;have fU:=Z.out.pick h9 hJ;have dM:=aD fU;have a:=KS.out _ _ fU;refine d.out _ _ a ?_;clear d V hr hJ h9 fU Z
            try simp only[Act.put,sA,sB,sC]
            refine iM (v:=?vr23) At.z.f.f.f.f.s.s.s (by kernel_rfl) (fun _ _ _ h=>h) (by kernel_rfl) ?hr23 a ?_
            case hr23=>intro _ s;(try dsimp only at s);go_simp;try with_reducible rfl
            try simp only[Act.put,sA,sB,sC]
            refine bM (v:=?vr24) At.z.f.f.f.f.s.s.s.s (by kernel_rfl) (fun _ _ _ h=>h) rfl ?hr24 a ?_
            case hr24=>intro _ s;(try dsimp only at s);go_simp;try with_reducible rfl
            try simp only[Act.put,sA,sB,sC]
            refine bM (v:=?vr25) At.z.f.f.f.f.f (by kernel_rfl) (fun _ _ _ h=>h) rfl ?hr25 a ?_
            case hr25=>intro _ s;(try dsimp only at s);go_simp;try with_reducible rfl
            try simp only[Act.put,sA,sB,sC]
            clear a;refine iQ At.z.f.f.f.f.f.s (by kernel_rfl) (by kernel_rfl) (fun V d=>?_);have r1:=dM.out.row.cell (i:=k) Y;have z1:=dM.out.row.frozen k;have aO:=aD (aH.out wE ((r:Int) == 0) _ _ (by omega) dM.out ⟨fun h=>absurd h bO,fun _ x y hx hy jO=>absurd jO (by rw[List.getElem?_map,fH.out] at hx; rw[List.getElem?_map,fI.out] at hy; cases hx; cases hy; exact hm)⟩);have HC:=aD (fA (f:=f) Y (nD (z:=D) (ds:=M.map Prod.snd) (rows:=rs.map Prod.snd) (j:=jk) bO eF.out (by rw[List.getElem?_map,fH.out]; rfl) (by rw[List.getElem?_map,fI.out]; rfl) hm cH.out));clear dM aH KS cJ cK;go_simp;refine d.out _ _ ?_;clear d V r1 z1
            try simp only[Act.put,sA,sB,sC]
            skip
            go_wp2
            skip
            go_roundw
            skip
            case rel=>exact⟨k+1,_,_,by omega,by go_num,aO.out.1,HC.out.trans cD.out,aO.out.2⟩
            case measure=>simp[intOf]; omega
        ·have g0:decide ((k:Int)<(B:Int))=false:=decide_eq_false (by omega)
         have jJ:k=B:=by omega
         subst jJ;have p3:wq.cell? ⟨pb,3,none⟩=some (.slice ab i aK):=hR.pl.plan.cell (i:=3) (by omega);have q:=bC wq (.cells #[.slice (some ⟨rb,0,none⟩) k k] 36);have dQ:=hR.call q
         have eR:=cI.out.far dQ.kp fun c hc _=>by omega
         have aC:=aD (Bb (W:=wq) (t:=36) (x:=.slice (some ⟨rb,0,none⟩) k k))
         have cP:Hid (∀u∈([.slice (some ⟨rb,0,none⟩) k k]:List Value),u.oneCell'=true):=by
          show ∀u∈([.slice (some ⟨rb,0,none⟩) k k]:List Value),u.oneCell'=true;intro u hu;rw[List.mem_singleton.1 hu];rfl
         have f3:Hid (i+1<=maxLen):=by show i+1<=maxLen; unfold maxLen; omega
         have f4:Hid ((i+1)*24<=140737488355328):=by show (i+1)*24<=140737488355328; omega
         have HZ:Hid (wv.heap.size<=(wq.alloc (.cells #[.slice (some ⟨rb,0,none⟩) k k] 36)).heap.size):=by show wv.heap.size<=_; have:=dQ.row.lt; omega
         have b1:=aD eR.own;rw[bJ.out] at b1;obtain⟨xs,bS⟩:∃xs,xs=rs.map Prod.fst:=⟨_,rfl⟩;have fJ:=aD bS;rw[← bS] at b1;have fD:=aD dQ;clear hR q dQ eR bS Y hk
         go_wp2_with (at_builtin; refine iN rfl _ _ 25 rfl wv.heap.size 36 (.slice none 0 0) 1 24 Tryz.underlying25 EL rfl (by decide) (.slice ab i aK) i xs rfl b1.out (some ⟨wq.heap.size,0,none⟩) 1 1 [.slice (some ⟨rb,0,none⟩) k k] rfl rfl aC.out cP.out f3.out f4.out HZ.out ?_)
         intro u5 w9 I b9;obtain⟨a9,c9,rfl⟩:=zag I;rw[fJ.out] at I;obtain⟨d1,d2,d3,d4⟩:=fD.out.done cI.out jK iH (by unfold maxLen; omega) b9 I (by rw[bJ.out]);have y9:w9.cell? ⟨pb,3,none⟩=some (.slice ab i aK):=d1.plan.cell (i:=3) (by omega);have z9:=d1.plan.frozen 3;have eU:=aD (d2.mono (L:=K+600+10*(i+1)) (by omega));have eV:=aD (((aV.out.trans fD.out.kp).low d3).setCell (p:=⟨pb,3,none⟩) (fun z=>Nat.lt_irrefl _ z) (.slice a9 (i+1) c9));have eX:=aD d4
         have j9:Hid (eS D (M.map Prod.snd) (rs.map Prod.snd) i k 0 (fun _=>false) jb=(f,jk)):=by
          show _=_;rw[← cD.out,Nat.sub_self];rfl
         have g4:(rs.map Prod.snd).length=i:=by rw[List.length_map]; exact bJ.out
         have g8:(M.map Prod.snd).length=k:=by rw[List.length_map]; exact aX.out.symm
         have eY:Hid (gK (M.map Prod.snd) ((rs++[(Value.slice (some ⟨rb,0,none⟩) k k,(List.range k).map f)]).map Prod.snd)):=by
          show gK _ _;rw[List.map_append];refine dF.out.snoc (by rw[g8]; simp) fun j hj=>?_;rw[g8] at hj;rw[g4];have hL:=HF.out j hj
          have iD:((List.range k).map f)[j]?=some (f j):=by rw[List.getElem?_map,List.getElem?_range hj]; rfl
          exact⟨fun h=>by rw[iD]; exact (hL.1 h).symm,fun h x y hx hy hm=>by rw[iD,hL.2 h x y hx hy hm]⟩
         have iK:Hid ((rs++[(Value.slice (some ⟨rb,0,none⟩) k k,(List.range k).map f)]).length=i+1):=by show _=_; rw[List.length_append,bJ.out]; rfl
         have gF:Hid (eL D (M.map Prod.snd) k (k-(i+1)) ((rs++[(Value.slice (some ⟨rb,0,none⟩) k k,(List.range k).map f)]).map Prod.snd) jk=eL D (M.map Prod.snd) k k [] jw):=by
          show _=_;rw[List.map_append];exact (lO bP g4 j9.out).trans gC.out
         clear d1 d2 d3 d4 I b9 b1 aC cP fD p3 g4 g8;go_wp2;go_roundw
         case rel=>exact⟨i+1,_,_,_,by omega,by go_num,iK.out,eU.out,eV.out,eX.out,eY.out,gF.out⟩
         case measure=>simp[intOf]; omega
      ·have eM:decide ((i:Int)<(B:Int))=false:=decide_eq_false (by omega)
       have c7:i=B:=by omega
       subst c7;have e0:E.cell? ⟨pb,0,none⟩=some (.int .i64 (n:Int)):=hP.plan.cell (i:=0) (by omega);have e1:E.cell? ⟨pb,1,none⟩=some (.slice al O ca):=hP.plan.cell (i:=1) (by omega);have e2:E.cell? ⟨pb,2,none⟩=some (.slice (some ⟨gy,0,none⟩) i cy):=hP.plan.cell (i:=2) (by omega);have e3:E.cell? ⟨pb,3,none⟩=some (.slice ab i aK):=hP.plan.cell (i:=3) (by omega);have e4:E.cell? ⟨pb,4,none⟩=some (.int .i64 (ho:Int)):=hP.plan.cell (i:=4) (by omega);obtain⟨gR,aQ⟩:=hP.res;have r0:=aQ.cell (i:=0) (by omega);have r1:=aQ.cell (i:=1) (by omega);have r2:=aQ.cell (i:=2) (by omega);have r3:=aQ.cell (i:=3) (by omega);have r4:=aQ.cell (i:=4) (by omega);have k0:=aQ.frozen 0;have k1:=aQ.frozen 1;have k2:=aQ.frozen 2;have k3:=aQ.frozen 3;have k4:=aQ.frozen 4;have gX:=aD hP;have aV:=aD cV;have cI:=aD d8;have dF:=aD dT;have k6:=hP.lt;clear hP cV d8 dT aQ bP hi eB;go_wp2;refine bodyPost_ret (v:=.agg #[.int .i64 (n:Int),.slice al O ca,.slice (some ⟨gy,0,none⟩) i cy,.slice ab i aK,.int .i64 (ho:Int)]) (by simp[results,Tryz.results35,go_sem,r0,r1,r2,r3,r4]) rfl ?_;have bL:∀o:Nat,¬((fun c=>c≠w.heap.size) (⟨w.heap.size,o,none⟩:Addr).block):=fun o z=>z rfl;obtain⟨WE,fV⟩:∃W,W=((((E.setCell ⟨w.heap.size,0,none⟩ (.int .i64 (n:Int))).setCell ⟨w.heap.size,1,none⟩ (.slice al O ca)).setCell ⟨w.heap.size,2,none⟩ (.slice (some ⟨gy,0,none⟩) i cy)).setCell ⟨w.heap.size,3,none⟩ (.slice ab i aK)).setCell ⟨w.heap.size,4,none⟩ (.int .i64 (ho:Int)):=⟨_,rfl⟩
       rw[← fV]
       have dO:But (fun c=>c≠w.heap.size) E WE:=by
        rw[fV];exact (((((But.refl (fun c=>c≠w.heap.size) E).setCell (bL 0) _).setCell (bL 1) _).setCell (bL 2) _).setCell (bL 3) _).setCell (bL 4) _
       have jF:But (fun c=>c≠R) w WE:=by
        rw[fV];exact ((((gX.out.but.cN (p:=⟨w.heap.size,0,none⟩) (Nat.le_refl _) _).cN (p:=⟨w.heap.size,1,none⟩) (Nat.le_refl _) _).cN (p:=⟨w.heap.size,2,none⟩) (Nat.le_refl _) _).cN (p:=⟨w.heap.size,3,none⟩) (Nat.le_refl _) _).cN (p:=⟨w.heap.size,4,none⟩) (Nat.le_refl _) _
       have jH:=(oF (iY (iY jE.out aV.out fun c hc _=>by omega) dO fun c hc _=>by omega)).2;have dR:=((b0.out.far aV.out fun c hc _=>by omega).far dO fun c hc _=>by omega).at;have jG:=(cI.out.far dO fun c hc _=>by omega).at;have hE:=dR.keep (hU _ _) (Q:=fun c=>w.heap.size<=c∧c<WE.heap.size) fun c hc=>⟨by have:=hc.1; omega,hc.2⟩;refine⟨_,_,_,⟨(n:Int),l,M.map Prod.snd,rs.map Prod.snd,(ho:Int)⟩,rfl,?_,⟨jH.keep (hU _ _) fun c hc=>⟨by have:=hc.1; omega,hc.2⟩,hE.aB,jG.keep (hU _ _) fun c hc=>⟨by have:=hc.1; omega,hc.2⟩⟩,hE,jb,(gX.out.cur.but dO fun c hc=>by omega).mono (by omega),jF,?_⟩
       case refine_2=>exact⟨⟨_,_,_,_,_,_,_,_,_,_,iW.out,iX.out,iZ.out,by rw[← f7.out]; exact j0.out,j4.out,by rw[← f7.out]; exact j7.out,by rw[show (M.map Prod.snd).length=i by rw[List.length_map]; exact aX.out.symm,← gC.out,Nat.sub_self]; rfl,by rw[← f7.out],by rw[← iT.out]⟩⟩
       refine Gu ⟨by show (1:Int)<=(n:Int); omega,by show (n:Int)<=60; omega⟩ (by show l.length<=40; have:=aW.out; omega) (by show (M.map Prod.snd).length<=100; rw[List.length_map]; have:=aX.out; omega) ⟨by show (1:Int)<=(ho:Int); omega,by show (ho:Int)<=300; omega⟩ gI.out (fun x hx=>?_) (by show (rs.map Prod.snd).length=(M.map Prod.snd).length; rw[List.length_map,List.length_map,bJ.out]; exact aX.out) dF.out;obtain⟨z,hz,rfl⟩:=List.mem_map.1 hx;exact cM.out z hz
end Go.Proofs.YtdhinkgjiapigaaGreatDoor
