import Derived.Test.YtdhinkgjiapigaaGreatDoorRunS
namespace Go.Proofs.YtdhinkgjiapigaaGreatDoor
open Classical Go.Deep Go.RowKit
set_option maxHeartbeats 1000000 in
theorem jM (u v:Value) (l:List Bool) (w:World) (B:Bools (In w) w u l) (C:Bools (In w) w v l) (I:l.length<=1048576) :
  Calls Tryz.prog 53 #[u,v] w fun e w'=>e=.returned (.bool true)∧∃m,w'=w.drewN m:=by
 obtain⟨a,t,rfl,f⟩:=B;obtain⟨D,j,rfl,c⟩:=C;generalize g:l.length=n at *;have s:Hid (l.length=n):=g;have q:=aD f;have r:=aD c;clear f c g;go_enter Tryz.func53,Tryz.ntmps53;go_wp2
 go_loopw [13] (fun i wr=>∃(k m:Nat),k<=n∧i=.int .i64 k∧wr=w.drewN m) (fun i _=>n-(intOf i).toNat)
 case atStart=>exact⟨0,0,Nat.zero_le _,rfl,rfl⟩
 case round=>
  obtain⟨k,m,H,rfl,rfl⟩:=hrel;by_cases d:k<n
  ·obtain y | ⟨b,off,rfl,z,f⟩:=q.out
   ·omega
   obtain y | ⟨E,p,rfl,A,c⟩:=r.out
   ·omega
   obtain⟨x,h⟩:=bG l s d;have F:=f k d x h;have G:=c k d x h
   have o:(k:Int)<(n:Int):=by omega
   clear h f c;go_wp2
   go_quiet (fail)
   go_wp2;go_roundw
   case rel=>exact⟨k+1,_,by omega,by go_num,rfl⟩
   case measure=>simp[intOf]; omega
  ·go_wp2;go_ret;exact⟨rfl,m,rfl⟩
set_option maxHeartbeats 4000000 in
theorem jN (ok:Bool) (E S T v1 v2 v3:Value) (d:aF) (w:World) (X:bB (In w) w E S T d) (Y:bB (In w) w v1 v2 v3 d) (hs:d.Small 1048576) :
  Calls Tryz.prog 19 #[.agg #[.bool ok,E,S,T],.agg #[.bool ok,v1,v2,v3]] w fun e w'=>e=.returned (.bool true)∧Below w.heap.size w w':=by
 have T0:=eB w 40 40 #[.bool ok,E,S,T] #[.bool ok,v1,v2,v3];have hk:∀W,bD w [(40,#[.bool ok,E,S,T]),(40,#[.bool ok,v1,v2,v3])] W->bB (In W) W E S T d∧bB (In W) W v1 v2 v3 d:=fun _ h=>⟨X.keep (In.keep h.below).1 (In.keep h.below).2,Y.keep (In.keep h.below).1 (In.keep h.below).2⟩;have U:=aD hk;obtain⟨a2,c2,rfl⟩:=X.2.1.size;obtain⟨a3,c3,rfl⟩:=X.2.2.size;obtain⟨b2,e2,rfl⟩:=Y.2.1.size;obtain⟨b3,e3,rfl⟩:=Y.2.2.size;obtain⟨a5,a9,aA,P⟩:=hs;have H4:=aD P;generalize N:d.aC.length=np at *;generalize O:d.aB.length=nw at *;have Hp:Hid (d.aC.length=np):=N;have Hw:Hid (d.aB.length=nw):=O;have y:=aD T0;clear X Y P hk N O T0;go_enter Tryz.func19,Tryz.ntmps19
 go_wp2_with fail
 refine (jM E v1 d.aH _ (U.out _ y.out).1.1 (U.out _ y.out).2.1 a5).mono ?_;rintro e F ⟨rfl,m,hm⟩;have C:=y.out.call (hm ▸ pG _ m);clear y hm;have g2:F.cell? ⟨w.heap.size,2,none⟩=some (.slice a2 np c2):=C.c 0 2 rfl rfl;have g3:F.cell? ⟨w.heap.size,3,none⟩=some (.slice a3 nw c3):=C.c 0 3 rfl rfl;have f2:F.cell? ⟨w.heap.size+1,2,none⟩=some (.slice b2 np e2):=C.c 1 2 rfl rfl;have f3:F.cell? ⟨w.heap.size+1,3,none⟩=some (.slice b3 nw e3):=C.c 1 3 rfl rfl;have G:=aD C;clear C;go_wp2
 go_loopw [43] (fun i wr=>∃(k m:Nat),k<=np∧i=.int .i64 k∧wr=F.drewN m) (fun i _=>np-(intOf i).toNat)
 case atStart=>exact⟨0,0,Nat.zero_le _,rfl,rfl⟩
 case round=>
  obtain⟨k,m,hk,rfl,rfl⟩:=hrel;by_cases B:k<np
  ·obtain⟨⟨-,⟨x1,y1,R,v⟩,-⟩,⟨-,⟨x2,y2,D,a⟩,-⟩⟩:=U.out _ G.out;rw[Hp.out] at R D v a
   cases R
   cases D
   obtain h0 | ⟨b,off,rfl,J,v⟩:=v
   ·omega
   obtain h0 | ⟨b',A,rfl,K,a⟩:=a
   ·omega
   obtain⟨x,z⟩:=bG d.aC Hp B;obtain⟨r0,r1⟩:=v k B x z;obtain⟨r2,r3⟩:=a k B x z
   have g:(k:Int)<(np:Int):=by omega
   clear z v a;go_wp2
   go_quiet (fail)
   go_wp2;go_roundw
   case rel=>exact⟨k+1,_,by omega,by go_num,rfl⟩
   case measure=>simp[intOf]; omega
  ·have u:=aD (G.out.call (pG _ m));obtain⟨Z,r⟩:∃W,W=F.drewN m:=⟨_,rfl⟩;rw[← r] at u ⊢;have g2:Z.cell? ⟨w.heap.size,2,none⟩=some (.slice a2 np c2):=u.out.c 0 2 rfl rfl;have g3:Z.cell? ⟨w.heap.size,3,none⟩=some (.slice a3 nw c3):=u.out.c 0 3 rfl rfl;clear r;go_wp2
   go_loopw [61] (fun i wr=>∃(k:Nat),k<=nw∧i=.int .i64 k∧Below Z.heap.size Z wr) (fun i _=>nw-(intOf i).toNat)
   case atStart=>exact⟨0,Nat.zero_le _,rfl,Below.refl _ _⟩
   case round=>
    obtain⟨Q,a8,rfl,q⟩:=hrel;rename World=>wr;have V:=u.out.call q;by_cases g:Q<nw
    ·obtain⟨⟨-,-,⟨x1,y1,R,v⟩⟩,⟨-,-,⟨x2,y2,D,a⟩⟩⟩:=U.out _ u.out;rw[Hw.out] at R D v a
     cases R
     cases D
     obtain h0 | ⟨b,off,rfl,J,v⟩:=v
     ·omega
     obtain h0 | ⟨b',A,rfl,K,a⟩:=a
     ·omega
     obtain⟨x,z⟩:=bG d.aB Hw g;obtain⟨p2,hw,r0,r1,r2,r3,r4⟩:=v Q g x z;obtain⟨D,r,j0,j1,j2,j3,j4⟩:=a Q g x z;have a6:=H4.out x (List.mem_of_getElem? z);obtain⟨l,n,rfl⟩:=hw.size;obtain⟨s,t,rfl⟩:=r.size;generalize M:x.aL.length=nb at *;rw[← q.cell (p:=⟨b,_,none⟩) J] at r0 r1 r2 r3 r4;rw[← q.cell (p:=⟨b',_,none⟩) K] at j0 j1 j2 j3 j4
     have a7:(Q:Int)<(nw:Int):=by omega
     have o:=eB wr 44 44 #[.int .i64 x.state,.int .i64 x.gone,.slice l nb n,.bool x.aR,.int .i64 x.aN] #[.int .i64 x.state,.int .i64 x.gone,.slice s nb t,.bool x.aR,.int .i64 x.aN];have f:=bC wr (.cells #[.int .i64 x.state,.int .i64 x.gone,.slice l nb n,.bool x.aR,.int .i64 x.aN] 44);have l3:wr.cell? ⟨w.heap.size,3,none⟩=some (.slice (some ⟨b,off,none⟩) nw c3):=V.c 0 3 rfl rfl;have m3:(wr.alloc (.cells #[.int .i64 x.state,.int .i64 x.gone,.slice l nb n,.bool x.aR,.int .i64 x.aN] 44)).cell? ⟨w.heap.size+1,3,none⟩=some (.slice (some ⟨b',A,none⟩) nw e3):=(V.call f).c 1 3 rfl rfl;replace j0:=mP j0 f;replace j1:=mP j1 f;replace j2:=mP j2 f;replace j3:=mP j3 f;replace j4:=mP j4 f;have c:=aD (q.trans (o.below.mono q.size));have H:=aD (hw.keep (In.keep c.out).1 (In.keep c.out).2);have I:=aD (r.keep (In.keep c.out).1 (In.keep c.out).2);have aE:((wr.alloc (.cells #[.int .i64 x.state,.int .i64 x.gone,.slice l nb n,.bool x.aR,.int .i64 x.aN] 44)).alloc (.cells #[.int .i64 x.state,.int .i64 x.gone,.slice s nb t,.bool x.aR,.int .i64 x.aN] 44)).cell? ⟨wr.heap.size,0,none⟩=some (.int .i64 x.state):=o.c 0 0 rfl rfl;have aG:((wr.alloc (.cells #[.int .i64 x.state,.int .i64 x.gone,.slice l nb n,.bool x.aR,.int .i64 x.aN] 44)).alloc (.cells #[.int .i64 x.state,.int .i64 x.gone,.slice s nb t,.bool x.aR,.int .i64 x.aN] 44)).cell? ⟨wr.heap.size,1,none⟩=some (.int .i64 x.gone):=o.c 0 1 rfl rfl
     have aI:((wr.alloc (.cells #[.int .i64 x.state,.int .i64 x.gone,.slice l nb n,.bool x.aR,.int .i64 x.aN] 44)).alloc (.cells #[.int .i64 x.state,.int .i64 x.gone,.slice s nb t,.bool x.aR,.int .i64 x.aN] 44)).cell? ⟨wr.heap.size,2,none⟩=some (.slice l nb n):=o.c 0 2 rfl rfl;have aJ:((wr.alloc (.cells #[.int .i64 x.state,.int .i64 x.gone,.slice l nb n,.bool x.aR,.int .i64 x.aN] 44)).alloc (.cells #[.int .i64 x.state,.int .i64 x.gone,.slice s nb t,.bool x.aR,.int .i64 x.aN] 44)).cell? ⟨wr.heap.size,3,none⟩=some (.bool x.aR):=o.c 0 3 rfl rfl;have aK:((wr.alloc (.cells #[.int .i64 x.state,.int .i64 x.gone,.slice l nb n,.bool x.aR,.int .i64 x.aN] 44)).alloc (.cells #[.int .i64 x.state,.int .i64 x.gone,.slice s nb t,.bool x.aR,.int .i64 x.aN] 44)).cell? ⟨wr.heap.size,4,none⟩=some (.int .i64 x.aN):=o.c 0 4 rfl rfl;have aM:((wr.alloc (.cells #[.int .i64 x.state,.int .i64 x.gone,.slice l nb n,.bool x.aR,.int .i64 x.aN] 44)).alloc (.cells #[.int .i64 x.state,.int .i64 x.gone,.slice s nb t,.bool x.aR,.int .i64 x.aN] 44)).cell? ⟨wr.heap.size+1,0,none⟩=some (.int .i64 x.state):=o.c 1 0 rfl rfl;have aO:((wr.alloc (.cells #[.int .i64 x.state,.int .i64 x.gone,.slice l nb n,.bool x.aR,.int .i64 x.aN] 44)).alloc (.cells #[.int .i64 x.state,.int .i64 x.gone,.slice s nb t,.bool x.aR,.int .i64 x.aN] 44)).cell? ⟨wr.heap.size+1,1,none⟩=some (.int .i64 x.gone):=o.c 1 1 rfl rfl
     have aP:((wr.alloc (.cells #[.int .i64 x.state,.int .i64 x.gone,.slice l nb n,.bool x.aR,.int .i64 x.aN] 44)).alloc (.cells #[.int .i64 x.state,.int .i64 x.gone,.slice s nb t,.bool x.aR,.int .i64 x.aN] 44)).cell? ⟨wr.heap.size+1,2,none⟩=some (.slice s nb t):=o.c 1 2 rfl rfl;have aQ:((wr.alloc (.cells #[.int .i64 x.state,.int .i64 x.gone,.slice l nb n,.bool x.aR,.int .i64 x.aN] 44)).alloc (.cells #[.int .i64 x.state,.int .i64 x.gone,.slice s nb t,.bool x.aR,.int .i64 x.aN] 44)).cell? ⟨wr.heap.size+1,3,none⟩=some (.bool x.aR):=o.c 1 3 rfl rfl;have aS:((wr.alloc (.cells #[.int .i64 x.state,.int .i64 x.gone,.slice l nb n,.bool x.aR,.int .i64 x.aN] 44)).alloc (.cells #[.int .i64 x.state,.int .i64 x.gone,.slice s nb t,.bool x.aR,.int .i64 x.aN] 44)).cell? ⟨wr.heap.size+1,4,none⟩=some (.int .i64 x.aN):=o.c 1 4 rfl rfl;have a1:=aD M;have a4:=aD o;clear z v a hw r q V o f M
     go_wp2_with fail
     refine (jM _ _ x.aL _ H.out I.out (by rw[a1.out]; exact a6)).mono ?_;rintro e w5 ⟨rfl,m5,L⟩;have a0:=aD (c.out.trans ((L ▸ pG _ m5:Below _ _ w5).mono c.out.size));clear L c H I a4;go_wp2;go_roundw
     case rel=>exact⟨Q+1,by omega,by go_num,a0.out⟩
     case measure=>simp[intOf]; omega
    ·go_wp2;go_ret;exact⟨rfl,V.below⟩
set_option maxHeartbeats 2000000 in
theorem kM (u v:Value) (l:List (Int×aF)) (w:World) (hu:fK (In w) w u l) (hv:fK (In w) w v l) (hn:l.length<=1048576) (M:∀x∈l,x.2.Small 1048576) :
  Calls Tryz.prog 15 #[u,v] w fun e w'=>e=.returned (.bool true)∧Below w.heap.size w w':=by
 obtain⟨a,X,rfl,m⟩:=hu;obtain⟨a2,K,rfl,d⟩:=hv;generalize o:l.length=n at *;have S:Hid (l.length=n):=o;have O:=aD m;have P:=aD d;have R:=aD M;clear m d o M;go_enter Tryz.func15,Tryz.ntmps15;go_wp2
 go_loopw [13] (fun i wr=>∃(k:Nat),k<=n∧i=.int .i64 k∧Below w.heap.size w wr) (fun i _=>n-(intOf i).toNat)
 case atStart=>exact⟨0,Nat.zero_le _,rfl,Below.refl _ _⟩
 case round=>
  obtain⟨k,hk,rfl,c⟩:=hrel;rename World=>wr;by_cases j:k<n
  ·obtain Y | ⟨b,off,rfl,H,m⟩:=O.out
   ·omega
   obtain Y | ⟨V,N,rfl,I,d⟩:=P.out
   ·omega
   obtain⟨x,r⟩:=bG l S j;obtain⟨u1,u2,u3,f,C,D,E,F,G⟩:=m k j x r;obtain⟨v1,v2,v3,g,t,y,z,A,B⟩:=d k j x r;rw[← c.cell (p:=⟨b,_,none⟩) H] at C D E F G;rw[← c.cell (p:=⟨V,_,none⟩) I] at t y z A B
   have L:(k:Int)<(n:Int):=by omega
   have T:=aD fun (W:World) (h:Below wr.heap.size wr W)=>(f.keep (Q:=In wr) (In.keep c).1 (In.keep c).2).keep (Q:=In W) (In.keep h).1 (In.keep h).2;have U:=aD fun (W:World) (h:Below wr.heap.size wr W)=>(g.keep (Q:=In wr) (In.keep c).1 (In.keep c).2).keep (Q:=In W) (In.keep h).1 (In.keep h).2;obtain⟨a1,c1,rfl⟩:=f.1.size;obtain⟨a4,c4,rfl⟩:=f.2.1.size;obtain⟨a5,c5,rfl⟩:=f.2.2.size;obtain⟨a6,c6,rfl⟩:=g.1.size;obtain⟨a7,c7,rfl⟩:=g.2.1.size;obtain⟨a8,c8,rfl⟩:=g.2.2.size;have q:=R.out x (List.mem_of_getElem? r);have s:=aD q;have Z:=Ext.any wr;have E0:=Ext.cell C;have E1:=Ext.cell D;have E2:=Ext.cell E;have E3:=Ext.cell F;have E4:=Ext.cell G;have F0:=Ext.cell t;have F1:=Ext.cell y;have F2:=Ext.cell z;have F3:=Ext.cell A;have F4:=Ext.cell B;have J:=aD c;clear r m d c C D E F G t y z A B f g q;go_wp2;refine gQ (by kernel_rfl) (by kernel_rfl) ?_
   repeat (go_big_quiet_step ((go_at_call 19; exact eO (jN _ _ _ _ _ _ _ x.2 _ (T.out _ (Ext.below _)) (U.out _ (Ext.below _)) s.out))))
   refine wpQuiet_nil ?_;rintro _ ⟨nq,rfl⟩;go_wp2;go_roundw
   case rel=>exact⟨k+1,by omega,by go_num,J.out.trans (nq.below.mono J.out.size)⟩
   case measure=>simp[intOf]; omega
  ·go_wp2;go_ret;exact⟨rfl,c⟩
end Go.Proofs.YtdhinkgjiapigaaGreatDoor
