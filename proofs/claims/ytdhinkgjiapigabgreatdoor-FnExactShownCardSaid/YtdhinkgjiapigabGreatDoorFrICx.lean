import Derived.Test.YtdhinkgjiapigabGreatDoorFrIC
import Derived.Test.YtdhinkgjiapigabGreatDoorBasex
import Derived.Test.YtdhinkgjiapigabGreatDoorEvAx
import Derived.Test.YtdhinkgjiapigabGreatDoorFrGx
import Derived.Test.YtdhinkgjiapigabGreatDoorToAx
import Derived.Deep.RegionWith
import Derived.DeepKeys
import Derived.Deep.DeepCutAuto
namespace Go.Proofs.YtdhinkgjiapigabGreatDoor
open Go.RowKit Go.Deep
open Classical
end Go.Proofs.YtdhinkgjiapigabGreatDoor
namespace Go.Proofs.YtdhinkgjiapigabGreatDoor
open Go.RowKit Go.Deep
open Classical
set_option maxHeartbeats 1000000 in
theorem zth (p0 p1 p2 p3 p4 u0 u1 u2 u3 u4:Value) (w:World):Calls Tryz.prog 292 #[.agg #[],.agg #[p0,p1,p2,p3,p4],.agg #[u0,u1,u2,u3,u4]] w fun e w'=>e = .returned (.bool true) ∧ Below w.heap.size w w':=by
 go_enter Tryz.func292,Tryz.ntmps292;go_wp2;go_ret;exact ⟨rfl,((((Below.refl _ _).alloc (Nat.le_refl _) _).alloc (by simp) _).alloc (by simp; omega) _)⟩
set_option maxHeartbeats 1000000 in
theorem zts (b:Bool) (p0 p1 p2 p3 p4 u0 u1 u2 u3 u4:Value) (w:World):Calls Tryz.prog 294 #[.agg #[.bool b],.agg #[p0,p1,p2,p3,p4],.agg #[u0,u1,u2,u3,u4]] w fun e w'=>e = .returned (.bool true) ∧ Below w.heap.size w w':=by
 go_enter Tryz.func294,Tryz.ntmps294;go_wp2;go_ret;exact ⟨rfl,((((Below.refl _ _).alloc (Nat.le_refl _) _).alloc (by simp) _).alloc (by simp; omega) _)⟩
set_option maxHeartbeats 1000000 in
theorem zs5 (p0 p1 p2 p3 p4 u0 u1 u2 u3 u4:Value) (w:World):Calls Tryz.prog 296 #[.agg #[],.agg #[p0,p1,p2,p3,p4],.agg #[u0,u1,u2,u3,u4]] w fun e w'=>e = .returned (.bool true) ∧ Below w.heap.size w w':=by
 go_enter Tryz.func296,Tryz.ntmps296;go_wp2;go_ret;exact ⟨rfl,((((Below.refl _ _).alloc (Nat.le_refl _) _).alloc (by simp) _).alloc (by simp; omega) _)⟩
set_option maxHeartbeats 1000000 in
theorem zs1 (t hold:Int) (p0 p1 p2 p3 u0 u1 u2 u3 u4:Value) (w:World):Calls Tryz.prog 305 #[.agg #[.int .i64 t],.agg #[p0,p1,p2,p3,.int .i64 hold],.agg #[u0,u1,u2,u3,u4]] w fun e w'=>e = .returned (.bool (B (InR t 1 hold))) ∧ Below w.heap.size w w':=by
 have T0:=zbs w 258 37 122 #[.int .i64 t] #[p0,p1,p2,p3,.int .i64 hold] #[u0,u1,u2,u3,u4];by_cases h1:1 ≤ t
 ·by_cases h2:t ≤ hold
  ·rw [zam (show InR t 1 hold from ⟨h1,h2⟩)];go_enter Tryz.func305,Tryz.ntmps305;go_wp2;go_ret;exact ⟨zad (by simp; try omega),T0.below⟩
  ·rw [zae (show ¬ InR t 1 hold from fun h=>h2 h.2)];go_enter Tryz.func305,Tryz.ntmps305;go_wp2;go_ret;exact ⟨zad (by simp; try omega),T0.below⟩
 ·rw [zae (show ¬ InR t 1 hold from fun h=>h1 h.1)];go_enter Tryz.func305,Tryz.ntmps305;go_wp2;go_ret;exact ⟨zad (by simp; try omega),T0.below⟩
theorem ztb {l:List Bool} {g:Int} (hg:0 ≤ g) (hl:g ≤ l.length):(l.take g.toNat).all id = true ↔ ∀ k:Nat,(k:Int) < g → l[k]? = some true:=by
 constructor
 ·intro h k hk;obtain ⟨x,hx⟩:=zb4 l (i:=k) (by omega);have hm:x ∈ l.take g.toNat:=List.mem_of_getElem? (i:=k) (by rw [List.getElem?_take,if_pos (by omega)]; exact hx);have:=List.all_eq_true.1 h x hm;rw [hx];exact congrArg some this
 ·intro h;rw [List.all_eq_true];intro x hx;obtain ⟨i,hi⟩:=List.getElem?_of_mem hx;rw [List.getElem?_take] at hi;by_cases e:i < g.toNat
  ·rw [if_pos e,h i (by omega)] at hi
   cases hi
   rfl
  ·rw [if_neg e] at hi
   cases hi
set_option maxRecDepth 100000 in
set_option maxHeartbeats 2000000 in
theorem ztl (g:Int) (l:List Bool) (b:Bool) (hold:Int) (p0 p1 p2 p3 p4 u0 u1 u2 u3 u4:Value) (secs:List Int) (w:World) (hu:Ints (In w) w u0 secs) (hn:secs.length ≤ 30) (hl:l.length = 30) :
  Calls Tryz.prog 298 #[.agg (zbl g l b),.agg #[p0,p1,p2,p3,p4],.agg #[u0,u1,u2,u3,u4]] w fun e w'=>e = .returned (.bool (B (zr1 hold secs.length (.used g l b)))) ∧ Below w.heap.size w w':=by
 obtain ⟨a0,c0,rfl,-⟩:=hu;have T0:=zbs w 217 37 122 (zbl g l b) #[p0,p1,p2,p3,p4] #[.slice a0 secs.length c0,u1,u2,u3,u4];go_enter Tryz.func298,Tryz.ntmps298;obtain ⟨f,hr,h0,h31,hj⟩:=zmj (T0.row 0 _ _ rfl) hl;rw [Nat.add_zero] at hr;have c0':=hr.cell (i:=0) (by omega);rw [h0] at c0';have HJ:=zaa hj;have HR:=zaa hr;clear h0 h31 hj hr;by_cases h1:0 ≤ g
 case neg=>
  go_wp2;go_ret;exact ⟨zad (zae fun h=>by have:=h.1.1; omega).symm,T0.below⟩
 by_cases h2:g < (secs.length:Int)
 case neg=>
  go_wp2;go_ret;exact ⟨zad (zae fun h=>by have:=h.1.2; omega).symm,T0.below⟩
 have h30:g ≤ 30:=by omega
 have hlt:(l.take g.toNat).length = g.toNat:=by rw [List.length_take]; omega
 have hb:=znn (P:=In _) (c:=30) HR.out HR.out.lt hl HJ.out (n:=g.toNat) (by omega);have hcn:=zse _ (l.take g.toNat) _ hb (by omega);rw [hlt] at hcn;have HCN:=zaa hcn;clear hcn hb hlt
 go_wp2_with fail
 refine HCN.out.mono ?_;rintro e w' ⟨rfl,rfl⟩;go_wp2;go_ret;refine ⟨zad ?_,T0.below⟩;by_cases h3:(l.take g.toNat).all id = true
 ·rw [h3];exact (zam ⟨⟨h1,by omega⟩,(ztb h1 (by omega)).1 h3⟩).symm
 ·rw [Bool.not_eq_true] at h3;rw [h3];exact (zae fun h=>by have:=(ztb h1 (by omega)).2 h.2; rw [h3] at this; cases this).symm
end Go.Proofs.YtdhinkgjiapigabGreatDoor
namespace Go.Proofs.YtdhinkgjiapigabGreatDoor
open Go.RowKit Go.Deep
open Classical
theorem ztx {n:Nat} {h:HeldD} {s:StD} (hs:zp3 h = some s):(zao n s).state = h.state:=by
 unfold zp3 at hs;split at hs
 ·cases hs; rename_i e; rw [e]; rfl
 split at hs
 ·cases hs; rename_i e; rw [e]; rfl
 split at hs
 ·cases hs; rename_i e; rw [e]; rfl
 split at hs
 ·cases hs; rename_i e; rw [e]; rfl
 split at hs
 ·cases hs; rename_i e; rw [e]; rfl
 ·cases hs
theorem zsc {hold:Int} {n:Nat} {h:HeldD} {s:StD} (hs:zp3 h = some s) (hb:h.been.length = n) (h1:1 ≤ n) (hn:n ≤ 30):zcn hold n h ↔ zr1 hold n s ∧ ((zao n s).gone = h.gone ∧ (zao n s).shown = h.shown ∧ (zao n s).timer = h.timer ∧ (zao n s).been = h.been):=by
 constructor
 ·intro z;obtain ⟨s',e1,e2,-,e4⟩:=zof hn z;rw [hs] at e1
  cases e1
  exact ⟨e2,by rw [e4],by rw [e4],by rw [e4],by rw [e4]⟩
 ·rintro ⟨z,e1,e2,e3,e4⟩;refine ztq hb h1 hn hs z ?_;have e0:=ztx (n:=n) hs;obtain ⟨a,b,c,d,e⟩:=h;generalize zao n s = y at *;obtain ⟨a',b',c',d',e'⟩:=y;simp only at e0 e1 e2 e3 e4;rw [e0,e1,e2,e3,e4]
theorem zsb {n:Nat} {h:HeldD} {s:StD} (hs:zp3 h = some s) (hb:h.been.length = n):(zao n s).been.length = n:=by
 subst hb;unfold zp3 at hs;split at hs
 ·cases hs; simp [zao]
 split at hs
 ·cases hs; simp [zao]
 split at hs
 ·cases hs; simp [zao]
 split at hs
 ·cases hs; simp [zao]
 split at hs
 ·cases hs; simp [zao,pad]
 ·cases hs
theorem ztv {h:HeldD} {s:StD} (hs:zp3 h = some s) (hn:h.been.length ≤ 30):match s with | .inr (.inr (.inr (.inr (_,l,_))))=>l.length = 30 | _=>True:=by
 unfold zp3 at hs;split at hs
 ·cases hs; trivial
 split at hs
 ·cases hs; trivial
 split at hs
 ·cases hs; trivial
 split at hs
 ·cases hs; trivial
 split at hs
 ·cases hs; exact zcz hn
 ·cases hs
theorem Tryz.inv_idle_ok (v : Value) (w : World) : (method 453 183 v "loop.example/tappet/impl.ok").run Tryz.prog w = .ok (292, v) w := by kernel_rfl
theorem Tryz.inv_set_ok (v : Value) (w : World) : (method 453 212 v "loop.example/tappet/impl.ok").run Tryz.prog w = .ok (294, v) w := by kernel_rfl
theorem Tryz.inv_clear_ok (v : Value) (w : World) : (method 453 214 v "loop.example/tappet/impl.ok").run Tryz.prog w = .ok (296, v) w := by kernel_rfl
theorem Tryz.inv_taking_ok (v : Value) (w : World) : (method 453 258 v "loop.example/tappet/impl.ok").run Tryz.prog w = .ok (305, v) w := by kernel_rfl
theorem Tryz.inv_used_ok (v : Value) (w : World) : (method 453 217 v "loop.example/tappet/impl.ok").run Tryz.prog w = .ok (298, v) w := by kernel_rfl
set_option maxRecDepth 100000 in
set_option maxHeartbeats 8000000 in
theorem zs0 (p0 p1 p2 p3 u0 u1 u2 u3 u4 v2:Value) (hold:Int) (h:HeldD) (x:WayD) (w:World) (hx:WayAt (In w) w u0 u1 u2 u3 u4 x) (hb:Bools (In w) w v2 h.been) (hs:x.Small 30) (hn1:1 ≤ x.sections.length) (hbl:h.been.length ≤ 1048576) :
  Calls Tryz.prog 137 #[.agg #[p0,p1,p2,p3,.int .i64 hold],.agg #[u0,u1,u2,u3,u4],.agg #[.int .i64 h.state,.int .i64 h.gone,v2,.bool h.shown,.int .i64 h.timer]] w fun e w'=>∃ v,e = .returned (.tuple #[v,.bool (B (zcn hold x.sections.length h))]) ∧ (zcn hold x.sections.length h → ∃ s,zp3 h = some s ∧ v = stV s) ∧ Below w.heap.size w w':=by
 have T0:=zbs w 37 122 93 #[p0,p1,p2,p3,.int .i64 hold] #[u0,u1,u2,u3,u4] #[.int .i64 h.state,.int .i64 h.gone,v2,.bool h.shown,.int .i64 h.timer];have hk1:∀ W,Below w.heap.size w W → Bools (In W) W v2 h.been:=fun W k=>hb.keep (In.keep k).1 (In.keep k).2;have hk3:∀ W,Below w.heap.size w W → WayAt (In W) W u0 u1 u2 u3 u4 x:=fun W k=>hx.keep (In.keep k).1 (In.keep k).2;have K1:=zaa hk1;have K3:=zaa hk3;have HS:=zaa hs;obtain ⟨a0,c0,rfl⟩:=hx.1.size;obtain ⟨a2,c2,rfl⟩:=hb.size;clear hk1 hk3 hx hb hs;go_enter Tryz.func137,Tryz.ntmps137;by_cases q0:h.been.length = x.sections.length
 case neg=>
  have k0:((h.been.length:Int) != (x.sections.length:Int)) = true:=by simp; omega
  have Q0:=zaa q0;clear q0;go_wp2;exact bodyPost_ret (v:=.tuple #[.nilIface,.bool false]) (by simp [results,Tryz.results137,go_sem]) rfl ⟨_,by rw [zae fun z=>Q0.out z.2.1],fun z=>absurd z.2.1 Q0.out,T0.below⟩
 have k0:((h.been.length:Int) != (x.sections.length:Int)) = false:=by simp; omega
 have Q0:=zaa q0;clear q0;have hso:=zdh h (.slice a2 h.been.length c2) _ (K1.out _ T0.below) (by have:=Q0.out; have:=HS.out.1; omega) (by have:=Q0.out; omega)
 go_wp2_with fail
 refine hso.mono ?_;clear hso;rintro e w1 ⟨rfl,hb1⟩;have T1:=T0.call hb1;clear T0 hb1;have b0:=T1.cell (j:=0) (i:=0) rfl rfl;have b1:=T1.cell (j:=0) (i:=1) rfl rfl;have b2:=T1.cell (j:=0) (i:=2) rfl rfl;have b3:=T1.cell (j:=0) (i:=3) rfl rfl;have b4:=T1.cell (j:=0) (i:=4) rfl rfl;have d0:=T1.cell (j:=1) (i:=0) rfl rfl;have d1:=T1.cell (j:=1) (i:=1) rfl rfl;have d2:=T1.cell (j:=1) (i:=2) rfl rfl;have d3:=T1.cell (j:=1) (i:=3) rfl rfl;have d4:=T1.cell (j:=1) (i:=4) rfl rfl;have q0:=T1.cell (j:=2) (i:=0) rfl rfl;have q1:=T1.cell (j:=2) (i:=1) rfl rfl;have q2:=T1.cell (j:=2) (i:=2) rfl rfl;have q3:=T1.cell (j:=2) (i:=3) rfl rfl;have q4:=T1.cell (j:=2) (i:=4) rfl rfl;rw [Nat.add_zero] at b0 b1 b2 b3 b4
 cases hst:zp3 h with
 | none=>
  have HST:=zaa hst;clear hst;simp only [zrr];go_wp2
  have hno:¬ zcn hold x.sections.length h:=fun z=>by
   obtain ⟨s,hs,-⟩:=zof HS.out.1 z;rw [HST.out] at hs
   cases hs
  exact bodyPost_ret (v:=.tuple #[.nilIface,.bool false]) (by simp [results,Tryz.results137,go_sem]) rfl ⟨_,by rw [zae hno],fun z=>absurd z hno,T1.below⟩
 | some s=>
  have HST:=zaa hst;clear hst;simp only [zrr]
  cases s using StD.by
  case' idle=>
   simp only [stV];have m1:=Tryz.inv_idle_ok (.agg #[]);have m2:=Tryz.inv_idle_held (.agg #[])
   go_wp2_with fail
   refine (zth p0 p1 p2 p3 _ _ u1 u2 u3 u4 _).mono ?_;clear b0 b1 b2 b3 b4 d0 d1 d2 d3 d4 q0 q1 q2 q3 q4;rintro e w2 ⟨rfl,hb2⟩;have T2:=T1.call hb2;clear T1 hb2;have b0:=T2.cell (j:=0) (i:=0) rfl rfl;have b1:=T2.cell (j:=0) (i:=1) rfl rfl;have b2:=T2.cell (j:=0) (i:=2) rfl rfl;have b3:=T2.cell (j:=0) (i:=3) rfl rfl;have b4:=T2.cell (j:=0) (i:=4) rfl rfl;have d0:=T2.cell (j:=1) (i:=0) rfl rfl;have d1:=T2.cell (j:=1) (i:=1) rfl rfl;have d2:=T2.cell (j:=1) (i:=2) rfl rfl;have d3:=T2.cell (j:=1) (i:=3) rfl rfl;have d4:=T2.cell (j:=1) (i:=4) rfl rfl;have q0:=T2.cell (j:=2) (i:=0) rfl rfl;have q1:=T2.cell (j:=2) (i:=1) rfl rfl;have q2:=T2.cell (j:=2) (i:=2) rfl rfl;have q3:=T2.cell (j:=2) (i:=3) rfl rfl;have q4:=T2.cell (j:=2) (i:=4) rfl rfl;rw [Nat.add_zero] at b0 b1 b2 b3 b4;have HO:Hid (zr1 hold x.sections.length .idle):=trivial
   go_wp2_with fail
   refine (zb8 _ u1 u2 u3 u4 x.sections _ (K3.out _ T2.below).1 hn1 HS.out.1).mono ?_;clear b0 b1 b2 b3 b4 d0 d1 d2 d3 d4 q0 q1 q2 q3 q4;rintro e w3 ⟨v',bq,rfl,hO,hq,hb3⟩;have T3:=T2.call hb3;clear T2 hb3;obtain ⟨y,hy⟩:∃ y,y = zao x.sections.length .idle:=⟨_,rfl⟩;obtain ⟨V,hV⟩:∃ V:Value,V = (.iface 183 (.agg #[])):=⟨_,rfl⟩;have HV:Hid (∀ v,zcn hold x.sections.length h → v = V → ∃ s,zp3 h = some s ∧ v = stV s):=fun v _ hv=>⟨_,HST.out,hv.trans hV⟩;rw [← hV];clear hV
  case' set sb=>
   simp only [stV];have m1:=Tryz.inv_set_ok (.agg #[.bool sb]);have m2:=Tryz.inv_set_held (.agg #[.bool sb])
   go_wp2_with fail
   refine (zts sb p0 p1 p2 p3 _ _ u1 u2 u3 u4 _).mono ?_;clear b0 b1 b2 b3 b4 d0 d1 d2 d3 d4 q0 q1 q2 q3 q4;rintro e w2 ⟨rfl,hb2⟩;have T2:=T1.call hb2;clear T1 hb2;have b0:=T2.cell (j:=0) (i:=0) rfl rfl;have b1:=T2.cell (j:=0) (i:=1) rfl rfl;have b2:=T2.cell (j:=0) (i:=2) rfl rfl;have b3:=T2.cell (j:=0) (i:=3) rfl rfl;have b4:=T2.cell (j:=0) (i:=4) rfl rfl;have d0:=T2.cell (j:=1) (i:=0) rfl rfl;have d1:=T2.cell (j:=1) (i:=1) rfl rfl;have d2:=T2.cell (j:=1) (i:=2) rfl rfl;have d3:=T2.cell (j:=1) (i:=3) rfl rfl;have d4:=T2.cell (j:=1) (i:=4) rfl rfl;have q0:=T2.cell (j:=2) (i:=0) rfl rfl;have q1:=T2.cell (j:=2) (i:=1) rfl rfl;have q2:=T2.cell (j:=2) (i:=2) rfl rfl;have q3:=T2.cell (j:=2) (i:=3) rfl rfl;have q4:=T2.cell (j:=2) (i:=4) rfl rfl;rw [Nat.add_zero] at b0 b1 b2 b3 b4;have HO:Hid (zr1 hold x.sections.length (.set sb)):=trivial
   go_wp2_with fail
   refine (zhg sb _ u1 u2 u3 u4 x.sections _ (K3.out _ T2.below).1 hn1 HS.out.1).mono ?_;clear b0 b1 b2 b3 b4 d0 d1 d2 d3 d4 q0 q1 q2 q3 q4;rintro e w3 ⟨v',bq,rfl,hO,hq,hb3⟩;have T3:=T2.call hb3;clear T2 hb3;obtain ⟨y,hy⟩:∃ y,y = zao x.sections.length (.set sb):=⟨_,rfl⟩;obtain ⟨V,hV⟩:∃ V:Value,V = (.iface 212 (.agg #[.bool sb])):=⟨_,rfl⟩;have HV:Hid (∀ v,zcn hold x.sections.length h → v = V → ∃ s,zp3 h = some s ∧ v = stV s):=fun v _ hv=>⟨_,HST.out,hv.trans hV⟩;rw [← hV];clear hV
  case' clear=>
   simp only [stV];have m1:=Tryz.inv_clear_ok (.agg #[]);have m2:=Tryz.inv_clear_held (.agg #[])
   go_wp2_with fail
   refine (zs5 p0 p1 p2 p3 _ _ u1 u2 u3 u4 _).mono ?_;clear b0 b1 b2 b3 b4 d0 d1 d2 d3 d4 q0 q1 q2 q3 q4;rintro e w2 ⟨rfl,hb2⟩;have T2:=T1.call hb2;clear T1 hb2;have b0:=T2.cell (j:=0) (i:=0) rfl rfl;have b1:=T2.cell (j:=0) (i:=1) rfl rfl;have b2:=T2.cell (j:=0) (i:=2) rfl rfl;have b3:=T2.cell (j:=0) (i:=3) rfl rfl;have b4:=T2.cell (j:=0) (i:=4) rfl rfl;have d0:=T2.cell (j:=1) (i:=0) rfl rfl;have d1:=T2.cell (j:=1) (i:=1) rfl rfl;have d2:=T2.cell (j:=1) (i:=2) rfl rfl;have d3:=T2.cell (j:=1) (i:=3) rfl rfl;have d4:=T2.cell (j:=1) (i:=4) rfl rfl;have q0:=T2.cell (j:=2) (i:=0) rfl rfl;have q1:=T2.cell (j:=2) (i:=1) rfl rfl;have q2:=T2.cell (j:=2) (i:=2) rfl rfl;have q3:=T2.cell (j:=2) (i:=3) rfl rfl;have q4:=T2.cell (j:=2) (i:=4) rfl rfl;rw [Nat.add_zero] at b0 b1 b2 b3 b4;have HO:Hid (zr1 hold x.sections.length .clear):=trivial
   go_wp2_with fail
   refine (zi4 _ u1 u2 u3 u4 x.sections _ (K3.out _ T2.below).1 hn1 HS.out.1).mono ?_;clear b0 b1 b2 b3 b4 d0 d1 d2 d3 d4 q0 q1 q2 q3 q4;rintro e w3 ⟨v',bq,rfl,hO,hq,hb3⟩;have T3:=T2.call hb3;clear T2 hb3;obtain ⟨y,hy⟩:∃ y,y = zao x.sections.length .clear:=⟨_,rfl⟩;obtain ⟨V,hV⟩:∃ V:Value,V = (.iface 214 (.agg #[])):=⟨_,rfl⟩;have HV:Hid (∀ v,zcn hold x.sections.length h → v = V → ∃ s,zp3 h = some s ∧ v = stV s):=fun v _ hv=>⟨_,HST.out,hv.trans hV⟩;rw [← hV];clear hV
  case' taking t=>
   simp only [stV];have m1:=Tryz.inv_taking_ok (.agg #[.int .i64 t]);have m2:=Tryz.inv_taking_held (.agg #[.int .i64 t])
   go_wp2_with fail
   refine (zs1 t hold p0 p1 p2 p3 _ u1 u2 u3 u4 _).mono ?_;clear b0 b1 b2 b3 b4 d0 d1 d2 d3 d4 q0 q1 q2 q3 q4;rintro e w2 ⟨rfl,hb2⟩;have T2:=T1.call hb2;clear T1 hb2;have b0:=T2.cell (j:=0) (i:=0) rfl rfl;have b1:=T2.cell (j:=0) (i:=1) rfl rfl;have b2:=T2.cell (j:=0) (i:=2) rfl rfl;have b3:=T2.cell (j:=0) (i:=3) rfl rfl;have b4:=T2.cell (j:=0) (i:=4) rfl rfl;have d0:=T2.cell (j:=1) (i:=0) rfl rfl;have d1:=T2.cell (j:=1) (i:=1) rfl rfl;have d2:=T2.cell (j:=1) (i:=2) rfl rfl;have d3:=T2.cell (j:=1) (i:=3) rfl rfl;have d4:=T2.cell (j:=1) (i:=4) rfl rfl;have q0:=T2.cell (j:=2) (i:=0) rfl rfl;have q1:=T2.cell (j:=2) (i:=1) rfl rfl;have q2:=T2.cell (j:=2) (i:=2) rfl rfl;have q3:=T2.cell (j:=2) (i:=3) rfl rfl;have q4:=T2.cell (j:=2) (i:=4) rfl rfl;rw [Nat.add_zero] at b0 b1 b2 b3 b4;by_cases ho:InR t 1 hold
   case neg=>
    rw [zae ho];have HO:=zaa ho;clear ho;go_wp2;have hno:¬ zcn hold x.sections.length h:=fun z=>HO.out ((zsc HST.out Q0.out hn1 HS.out.1).1 z).1;exact bodyPost_ret (v:=.tuple #[.nilIface,.bool false]) (by simp [results,Tryz.results137,go_sem]) rfl ⟨_,by rw [zae hno],fun z=>absurd z hno,T2.below⟩
   rw [zam ho];have HO:Hid (zr1 hold x.sections.length (.taking t)):=ho;clear ho
   go_wp2_with fail
   refine (zcm t _ u1 u2 u3 u4 x.sections _ (K3.out _ T2.below).1 hn1 HS.out.1).mono ?_;clear b0 b1 b2 b3 b4 d0 d1 d2 d3 d4 q0 q1 q2 q3 q4;rintro e w3 ⟨v',bq,rfl,hO,hq,hb3⟩;have T3:=T2.call hb3;clear T2 hb3;obtain ⟨y,hy⟩:∃ y,y = zao x.sections.length (.taking t):=⟨_,rfl⟩;obtain ⟨V,hV⟩:∃ V:Value,V = (.iface 258 (.agg #[.int .i64 t])):=⟨_,rfl⟩;have HV:Hid (∀ v,zcn hold x.sections.length h → v = V → ∃ s,zp3 h = some s ∧ v = stV s):=fun v _ hv=>⟨_,HST.out,hv.trans hV⟩;rw [← hV];clear hV
  case' used g l b=>
   simp only [stV];have m1:=Tryz.inv_used_ok (.agg (zbl g l b));have m2:=Tryz.inv_used_held (.agg (zbl g l b));have hl30:l.length = 30:=ztv HST.out (by have:=Q0.out; have:=HS.out.1; omega)
   go_wp2_with fail
   refine (ztl g l b hold p0 p1 p2 p3 _ _ u1 u2 u3 u4 x.sections _ (K3.out _ T1.below).1 HS.out.1 hl30).mono ?_;clear b0 b1 b2 b3 b4 d0 d1 d2 d3 d4 q0 q1 q2 q3 q4;rintro e w2 ⟨rfl,hb2⟩;have T2:=T1.call hb2;clear T1 hb2;have b0:=T2.cell (j:=0) (i:=0) rfl rfl;have b1:=T2.cell (j:=0) (i:=1) rfl rfl;have b2:=T2.cell (j:=0) (i:=2) rfl rfl;have b3:=T2.cell (j:=0) (i:=3) rfl rfl;have b4:=T2.cell (j:=0) (i:=4) rfl rfl;have d0:=T2.cell (j:=1) (i:=0) rfl rfl;have d1:=T2.cell (j:=1) (i:=1) rfl rfl;have d2:=T2.cell (j:=1) (i:=2) rfl rfl;have d3:=T2.cell (j:=1) (i:=3) rfl rfl;have d4:=T2.cell (j:=1) (i:=4) rfl rfl;have q0:=T2.cell (j:=2) (i:=0) rfl rfl;have q1:=T2.cell (j:=2) (i:=1) rfl rfl;have q2:=T2.cell (j:=2) (i:=2) rfl rfl;have q3:=T2.cell (j:=2) (i:=3) rfl rfl;have q4:=T2.cell (j:=2) (i:=4) rfl rfl;rw [Nat.add_zero] at b0 b1 b2 b3 b4;by_cases ho:zr1 hold x.sections.length (.used g l b)
   case neg=>
    rw [zae ho];have HO:=zaa ho;clear ho;go_wp2;have hno:¬ zcn hold x.sections.length h:=fun z=>HO.out ((zsc HST.out Q0.out hn1 HS.out.1).1 z).1;exact bodyPost_ret (v:=.tuple #[.nilIface,.bool false]) (by simp [results,Tryz.results137,go_sem]) rfl ⟨_,by rw [zae hno],fun z=>absurd z hno,T2.below⟩
   rw [zam ho];have HO:Hid (zr1 hold x.sections.length (.used g l b)):=ho;clear ho
   go_wp2_with fail
   refine (zkw g l b _ u1 u2 u3 u4 x.sections _ (K3.out _ T2.below).1 hn1 HS.out.1 hl30).mono ?_;clear b0 b1 b2 b3 b4 d0 d1 d2 d3 d4 q0 q1 q2 q3 q4;rintro e w3 ⟨v',bq,rfl,hO,hq,hb3⟩;have T3:=T2.call hb3;clear T2 hb3;obtain ⟨y,hy⟩:∃ y,y = zao x.sections.length (.used g l b):=⟨_,rfl⟩;obtain ⟨V,hV⟩:∃ V:Value,V = (.iface 217 (.agg (zbl g l b))):=⟨_,rfl⟩;have HV:Hid (∀ v,zcn hold x.sections.length h → v = V → ∃ s,zp3 h = some s ∧ v = stV s):=fun v _ hv=>⟨_,HST.out,hv.trans hV⟩;rw [← hV];clear hV
  all_goals
   have HIFF:=zaa (zsc (hold:=hold) HST.out Q0.out hn1 HS.out.1)
   have hyl:y.been.length = x.sections.length:=by rw [hy]; exact zsb HST.out Q0.out
   rw [← hy] at hO HIFF ⊢;have HYL:=zaa hyl;clear hy hyl;have HOB:=zaa hO;have hkb:Bools (In w3) w3 v' y.been:=hO.read hO.lt;obtain ⟨gq,Mq,capq,rfl,-,-,-⟩:=hO;have TA:=T3.call (zab w3 (.cells #[.int .i64 y.state,.int .i64 y.gone,.slice (some ⟨bq,0,none⟩) y.been.length capq,.bool y.shown,.int .i64 y.timer] 93));have hbA:=zab w3 (.cells #[.int .i64 y.state,.int .i64 y.gone,.slice (some ⟨bq,0,none⟩) y.been.length capq,.bool y.shown,.int .i64 y.timer] 93);have hkb2:=hkb.keep (In.keep hbA).1 (In.keep hbA).2;have HEQ:=zaa (zsa _ _ y.been h.been _ hkb2 (K1.out _ TA.below) (by have:=HS.out.1; have:=HYL.out; omega) hbl);have b0:=TA.cell (j:=0) (i:=0) rfl rfl;have b1:=TA.cell (j:=0) (i:=1) rfl rfl;have b2:=TA.cell (j:=0) (i:=2) rfl rfl;have b3:=TA.cell (j:=0) (i:=3) rfl rfl;have b4:=TA.cell (j:=0) (i:=4) rfl rfl;have d0:=TA.cell (j:=1) (i:=0) rfl rfl;have d1:=TA.cell (j:=1) (i:=1) rfl rfl;have d2:=TA.cell (j:=1) (i:=2) rfl rfl;have d3:=TA.cell (j:=1) (i:=3) rfl rfl;have d4:=TA.cell (j:=1) (i:=4) rfl rfl;have q0:=TA.cell (j:=2) (i:=0) rfl rfl;have q1:=TA.cell (j:=2) (i:=1) rfl rfl;have q2:=TA.cell (j:=2) (i:=2) rfl rfl;have q3:=TA.cell (j:=2) (i:=3) rfl rfl;have q4:=TA.cell (j:=2) (i:=4) rfl rfl;rw [Nat.add_zero] at b0 b1 b2 b3 b4;have hfalse:¬ (y.gone = h.gone ∧ y.shown = h.shown ∧ y.timer = h.timer ∧ y.been = h.been) → B (zcn hold x.sections.length h) = false:=fun z=>zae fun k=>z (HIFF.out.1 k).2;have HFALSE:=zaa hfalse;clear hfalse hkb hkb2 hbA;by_cases e1:y.gone = h.gone
   case neg=>
    have k1:(y.gone == h.gone) = false:=by simpa using e1
    have E1:=zaa e1;clear e1;go_wp2;exact bodyPost_ret (v:=.tuple #[V,.bool false]) (by simp [results,Tryz.results137,go_sem]) rfl ⟨_,by rw [HFALSE.out fun z=>E1.out z.1],fun z=>HV.out _ z rfl,TA.below⟩
   have k1:(y.gone == h.gone) = true:=by simpa using e1
   have E1:=zaa e1;clear e1;by_cases e2:y.shown = h.shown
   case neg=>
    have k2:(y.shown == h.shown) = false:=by simpa using e2
    have E2:=zaa e2;clear e2;go_wp2;exact bodyPost_ret (v:=.tuple #[V,.bool false]) (by simp [results,Tryz.results137,go_sem]) rfl ⟨_,by rw [HFALSE.out fun z=>E2.out z.2.1],fun z=>HV.out _ z rfl,TA.below⟩
   have k2:(y.shown == h.shown) = true:=by simpa using e2
   have E2:=zaa e2;clear e2;by_cases e3:y.timer = h.timer
   case neg=>
    have k3:(y.timer == h.timer) = false:=by simpa using e3
    have E3:=zaa e3;clear e3;go_wp2;exact bodyPost_ret (v:=.tuple #[V,.bool false]) (by simp [results,Tryz.results137,go_sem]) rfl ⟨_,by rw [HFALSE.out fun z=>E3.out z.2.2.1],fun z=>HV.out _ z rfl,TA.below⟩
   have k3:(y.timer == h.timer) = true:=by simpa using e3
   have E3:=zaa e3;clear e3
   go_wp2_with fail
   refine HEQ.out.mono ?_;clear b0 b1 b2 b3 b4 d0 d1 d2 d3 d4 q0 q1 q2 q3 q4;rintro e w4 ⟨rfl,hb4⟩;have T4:=TA.call hb4;have hB:B (y.been = h.been) = B (zcn hold x.sections.length h):=zbz ⟨fun z=>HIFF.out.2 ⟨HO.out,E1.out,E2.out,E3.out,z⟩,fun z=>(HIFF.out.1 z).2.2.2.2⟩;rw [hB];clear hB hb4 k1 k2 k3;go_wp2;exact bodyPost_ret (v:=.tuple #[V,.bool (B (zcn hold x.sections.length h))]) (by simp [results,Tryz.results137,go_sem]) rfl ⟨_,rfl,fun z=>HV.out _ z rfl,T4.below⟩
end Go.Proofs.YtdhinkgjiapigabGreatDoor
namespace Go.Proofs.YtdhinkgjiapigabGreatDoor
open Go.RowKit Go.Deep
open Classical
theorem zt4 {l:List Bool} (h:l.length = 30):∃ x0 x1 x2 x3 x4 x5 x6 x7 x8 x9 x10 x11 x12 x13 x14 x15 x16 x17 x18 x19 x20 x21 x22 x23 x24 x25 x26 x27 x28 x29,l = [x0,x1,x2,x3,x4,x5,x6,x7,x8,x9,x10,x11,x12,x13,x14,x15,x16,x17,x18,x19,x20,x21,x22,x23,x24,x25,x26,x27,x28,x29]:=by
 match l,h with
 | [x0,x1,x2,x3,x4,x5,x6,x7,x8,x9,x10,x11,x12,x13,x14,x15,x16,x17,x18,x19,x20,x21,x22,x23,x24,x25,x26,x27,x28,x29],_=>exact ⟨_,_,_,_,_,_,_,_,_,_,_,_,_,_,_,_,_,_,_,_,_,_,_,_,_,_,_,_,_,_,rfl⟩
theorem Tryz.beenLits {l:List Bool} (h:l.length = 30):Tryz.prog.keyLits 2 215 (l.map Value.bool) = some (l.map Lit.bool):=by
 obtain ⟨x0,x1,x2,x3,x4,x5,x6,x7,x8,x9,x10,x11,x12,x13,x14,x15,x16,x17,x18,x19,x20,x21,x22,x23,x24,x25,x26,x27,x28,x29,rfl⟩:=zt4 h
 kernel_rfl
theorem zs8 {l r:List Bool}:l.map Lit.bool = r.map Lit.bool ↔ l = r:=by
 constructor
 ·intro h
  induction l generalizing r with
  | nil=>cases r with
   | nil=>rfl
   | cons a r=>cases h
  | cons a l ih=>cases r with
   | nil=>cases h
   | cons b r=>
    simp only [List.map_cons,List.cons.injEq,Lit.bool.injEq] at h;rw [h.1,ih h.2]
 ·rintro rfl;rfl
theorem Tryz.cells30:Tryz.prog.cellsOf 215 = 30:=by kernel_rfl
theorem Tryz.beenFormed {l:List Bool} (h:l.length = 30):Value.formed Tryz.prog 215 (.agg (l.map Value.bool).toArray) = true:=by
 simp [Value.formed,Tryz.underlying215,Tryz.cells30,h]
theorem ztz (d:Nat) (l r:List Bool) (hl:l.length = 30) (hr:r.length = 30) (w:World):(Op.equalIn (d + 2) 215 (.agg (l.map Value.bool).toArray) (.agg (r.map Value.bool).toArray)).run Tryz.prog w = .ok (B (l = r)) w:=by
 obtain ⟨q,hq,hi⟩:=run_equalIn_deep (P:=Tryz.prog) d 2 215 (by kernel_rfl) w 2 2 (.agg (l.map Value.bool).toArray) (.agg (r.map Value.bool).toArray) (l.map Lit.bool) (r.map Lit.bool) (Tryz.beenFormed hl) (Tryz.beenFormed hr) (by simpa [Value.cells] using Tryz.beenLits hl) (by simpa [Value.cells] using Tryz.beenLits hr);rw [zs8] at hi
 have he:q = B (l = r):=by
  cases q with
  | true=>exact (zam (hi.1 rfl)).symm
  | false=>exact (zae fun e=>by have:=hi.2 e; cases this).symm
 rw [hq,he]
theorem ztd {xs:Array Value} {v:Value} (h:xs[0]? = some v) (w:World):(part 3 xs 0).run Tryz.prog w = .ok v w:=run_part_plain w (by kernel_rfl) h
theorem zsx {xs:Array Value} {v:Value} (h:xs[31]? = some v) (w:World):(part 4 xs 31).run Tryz.prog w = .ok v w:=run_part_plain w (by kernel_rfl) h
theorem zsw (xs:Array Value) (w:World):(part 215 xs 1).run Tryz.prog w = .ok (.agg (xs.extract 1 31)) w:=by
 have hagg:(isAgg 215).run Tryz.prog w = .ok true w:=by kernel_rfl
 have hsz:(sizeOf 215).run Tryz.prog w = .ok 30 w:=by kernel_rfl
 unfold part;simp [hagg]
theorem ztt (g:Int) (l:List Bool) (b:Bool):(zbl g l b)[0]? = some (.int .i64 g):=by rw [← Array.getElem?_toList,zby]; rfl
theorem ztf {g:Int} {l:List Bool} {b:Bool} (h:l.length = 30):(zbl g l b)[31]? = some (.bool b):=by
 rw [← Array.getElem?_toList,zby,List.getElem?_cons_succ,List.getElem?_append_right (by simp [h])];simp [h]
theorem zs3 {g:Int} {l:List Bool} {b:Bool} (h:l.length = 30):(zbl g l b).extract 1 31 = (l.map Value.bool).toArray:=by
 apply Array.toList_inj.1;rw [Array.toList_extract,zby];simp [List.extract,h]
theorem Tryz.usedFields : ∃ f0 f1 f2 : Field, (Tryz.prog.fieldsOf 217).toList = [f0, f1, f2] ∧ (f0.name ≠ "_" ∧ f0.type = 3 ∧ f0.offset = 0) ∧ (f1.name ≠ "_" ∧ f1.type = 215 ∧ f1.offset = 1) ∧ (f2.name ≠ "_" ∧ f2.type = 4 ∧ f2.offset = 31) := by
 refine ⟨_,_,_,by simp only [Program.fieldsOf,Tryz.underlying217]; rfl,⟨by decide,rfl,rfl⟩,⟨by decide,rfl,rfl⟩,⟨by decide,rfl,rfl⟩⟩
theorem Tryz.usedStruct:Tryz.prog.underlying 217 = some (.struct (Tryz.prog.fieldsOf 217)):=by kernel_rfl
theorem Tryz.usedStood:Tryz.prog.stoodInHeld 217 = false:=by kernel_rfl
theorem zs2 {P : Program} {w : World} {d : Nat} {xs ys : Array Value} {f0 f1 f2 : Field} {a0 b0 a1 b1 a2 b2 : Value} {r0 r1 r2 : Bool} (h0 : f0.name ≠ "_") (h1 : f1.name ≠ "_") (h2 : f2.name ≠ "_")
  (p0:(part f0.type xs f0.offset).run P w = .ok a0 w) (q0:(part f0.type ys f0.offset).run P w = .ok b0 w) (e0:(Op.equalIn d f0.type a0 b0).run P w = .ok r0 w)
  (p1:(part f1.type xs f1.offset).run P w = .ok a1 w) (q1:(part f1.type ys f1.offset).run P w = .ok b1 w) (e1:(Op.equalIn d f1.type a1 b1).run P w = .ok r1 w)
  (p2:(part f2.type xs f2.offset).run P w = .ok a2 w) (q2:(part f2.type ys f2.offset).run P w = .ok b2 w) (e2:(Op.equalIn d f2.type a2 b2).run P w = .ok r2 w) :
  (Op.eqFields d xs ys [f0,f1,f2]).run P w = .ok (r0 && r1 && r2) w:=by
 cases r0 <;> cases r1 <;> cases r2 <;> simp [Op.eqFields,h0,h1,h2,p0,q0,e0,p1,q1,e1,p2,q2,e2]
theorem zt2 (d:Nat) (g g':Int) (l l':List Bool) (b b':Bool) (hl:l.length = 30) (hl':l'.length = 30) (w:World) :
  (Op.equalIn (d + 3) 217 (.agg (zbl g l b)) (.agg (zbl g' l' b'))).run Tryz.prog w = .ok (B (g = g' ∧ l = l' ∧ b = b')) w:=by
 obtain ⟨f0,f1,f2,hf,⟨a1,a2,a3⟩,⟨b1,b2,b3⟩,⟨c1,c2,c3⟩⟩:=Tryz.usedFields
 have h:=zs2 (P:=Tryz.prog) (w:=w) (d:=d + 2) (xs:=zbl g l b) (ys:=zbl g' l' b') a1 b1 c1
  (by rw [a2,a3]; exact ztd (ztt g l b) w) (by rw [a2,a3]; exact ztd (ztt g' l' b') w) (by rw [a2]; exact run_equalIn_int (P:=Tryz.prog) w (d + 1) 3 .i64 .i64 g g' Tryz.underlying3)
  (by rw [b2,b3]; exact zsw (zbl g l b) w) (by rw [b2,b3]; exact zsw (zbl g' l' b') w) (by rw [b2,zs3 hl,zs3 hl']; exact ztz d l l' hl hl' w)
  (by rw [c2,c3]; exact zsx (ztf (g:=g) (b:=b) hl) w) (by rw [c2,c3]; exact zsx (ztf (g:=g') (b:=b') hl') w) (by rw [c2]; exact run_equalIn_bool' (P:=Tryz.prog) w (d + 1) 4 b b' Tryz.underlying4)
 rw [run_equalIn_struct w (d + 2) 217 _ _ Tryz.usedStruct Tryz.usedStood,hf,h]
 have hB:((g == g') && B (l = l') && (b == b')) = B (g = g' ∧ l = l' ∧ b = b'):=by
  unfold B
  by_cases e1:g = g' <;> by_cases e2:l = l' <;> by_cases e3:b = b' <;> simp [e1,e2,e3]
 rw [hB]
theorem zr7 {tx ty:TypeId} (vx vy:Value) (hne:tx ≠ ty) (w:World):(binOp .neq 165 (.iface tx vx) (.iface ty vy)).run Tryz.prog w = .ok (.bool true) w:=by
 have h:∀ d:Nat,(Op.equalIn (d + 1) 165 (.iface tx vx) (.iface ty vy)).run Tryz.prog w = .ok false w:=fun d=>by simp [Op.equalIn,run_underlying Tryz.underlying165,hne]
 simp only [binOp];simp [Op.equal,Op.maxDepth,h 9999]
theorem zti {t:TypeId} {x y:Value} {i:TypeInfo} {d:Nat} {w:World} (hi:Tryz.prog.info? t = some i) (hc:i.comparable = true):(Op.equalIn (d + 1) 165 (.iface t x) (.iface t y)).run Tryz.prog w = (Op.equalIn d t x y).run Tryz.prog w:=by
 simp [Op.equalIn,run_underlying Tryz.underlying165,typeInfo,hi,hc]
theorem zsd {t:TypeId} {x y:Value} {r:Bool} (hc:(Tryz.prog.info? t).map (·.comparable) = some true) (w:World) (hr:(Op.equalIn 9999 t x y).run Tryz.prog w = .ok r w):(binOp .neq 165 (.iface t x) (.iface t y)).run Tryz.prog w = .ok (.bool (!r)) w:=by
 obtain ⟨i,hi,hci⟩:=Option.map_eq_some_iff.1 hc
 have h:(Op.equalIn (9999 + 1) 165 (.iface t x) (.iface t y)).run Tryz.prog w = .ok r w:=by
  rw [zti hi hci];exact hr
 simp only [binOp];simp [Op.equal,Op.maxDepth,h]
theorem zsv {d : Nat} {t ft : TypeId} {x y : Value} {r : Bool} {w : World} (hs : ∃ f : Field, (Tryz.prog.fieldsOf t).toList = [f] ∧ f.name ≠ "_" ∧ f.type = ft ∧ f.offset = 0) (hu : Tryz.prog.underlying t = some (.struct (Tryz.prog.fieldsOf t))) (hp : Tryz.prog.stoodInHeld t = false) (hk : Tryz.prog.plainKey ft = true)
  (he:(Op.equalIn d ft x y).run Tryz.prog w = .ok r w):(Op.equalIn (d + 1) t (.agg #[x]) (.agg #[y])).run Tryz.prog w = .ok r w:=by
 obtain ⟨f,hf,h1,h2,h3⟩:=hs;rw [run_equalIn_struct w d t _ _ hu hp,hf];have p1:=run_part_plain (P:=Tryz.prog) w hk (xs:=#[x]) (off:=0) (v:=x) rfl;have p2:=run_part_plain (P:=Tryz.prog) w hk (xs:=#[y]) (off:=0) (v:=y) rfl
 cases r <;> simp [Op.eqFields,h1,h2,h3,p1,p2,he]
theorem ztc {d:Nat} {t:TypeId} {w:World} (hs:(Tryz.prog.fieldsOf t).toList = []) (hu:Tryz.prog.underlying t = some (.struct (Tryz.prog.fieldsOf t))) (hp:Tryz.prog.stoodInHeld t = false):(Op.equalIn (d + 1) t (.agg #[]) (.agg #[])).run Tryz.prog w = .ok true w:=by
 rw [run_equalIn_struct w d t _ _ hu hp,hs];simp [Op.eqFields]
def zt8:StD → Prop
 | .inr (.inr (.inr (.inr (_,l,_))))=>l.length = 30
 | _=>True
theorem zt5 (a c:StD) (ha:zt8 a) (hc:zt8 c) (w:World):(binOp .neq 165 (stV a) (stV c)).run Tryz.prog w = .ok (.bool (!(B (a = c)))) w:=by
 cases a using StD.by with
 | idle=>
  cases c using StD.by with
  | idle=>rw [zam rfl]; exact zsd (by kernel_rfl) w (ztc (by simp [Program.fieldsOf,Tryz.underlying183]) (by kernel_rfl) (by kernel_rfl))
  | set b2=>rw [zae (show ¬ (StD.idle = StD.set b2) from fun z=>by cases z)]; exact zr7 _ _ (by decide) w
  | clear=>rw [zae (show ¬ (StD.idle = StD.clear) from fun z=>by cases z)]; exact zr7 _ _ (by decide) w
  | taking t2=>rw [zae (show ¬ (StD.idle = StD.taking t2) from fun z=>by cases z)]; exact zr7 _ _ (by decide) w
  | used g2 l2 b2=>rw [zae (show ¬ (StD.idle = StD.used g2 l2 b2) from fun z=>by cases z)]; exact zr7 _ _ (by decide) w
 | set b=>
  cases c using StD.by with
  | idle=>rw [zae (show ¬ (StD.set b = StD.idle) from fun z=>by cases z)]; exact zr7 _ _ (by decide) w
  | set b2=>
   have h:=zsd (t:=212) (x:=.agg #[.bool b]) (y:=.agg #[.bool b2]) (by kernel_rfl) w (zsv (d:=9998) (ft:=4) ⟨_,by simp only [Program.fieldsOf,Tryz.underlying212]; rfl,by decide,rfl,rfl⟩ (by kernel_rfl) (by kernel_rfl) (by kernel_rfl) (run_equalIn_bool' (P:=Tryz.prog) w 9997 4 b b2 Tryz.underlying4));refine h.trans ?_;by_cases e:b = b2
   ·rw [zam (show StD.set b = StD.set b2 by rw [e]),show (b == b2) = true by simpa using e]
   ·rw [zae (show ¬ (StD.set b = StD.set b2) from fun z=>by cases z; exact e rfl),show (b == b2) = false by simpa using e]
  | clear=>rw [zae (show ¬ (StD.set b = StD.clear) from fun z=>by cases z)]; exact zr7 _ _ (by decide) w
  | taking t2=>rw [zae (show ¬ (StD.set b = StD.taking t2) from fun z=>by cases z)]; exact zr7 _ _ (by decide) w
  | used g2 l2 b2=>rw [zae (show ¬ (StD.set b = StD.used g2 l2 b2) from fun z=>by cases z)]; exact zr7 _ _ (by decide) w
 | clear=>
  cases c using StD.by with
  | idle=>rw [zae (show ¬ (StD.clear = StD.idle) from fun z=>by cases z)]; exact zr7 _ _ (by decide) w
  | set b2=>rw [zae (show ¬ (StD.clear = StD.set b2) from fun z=>by cases z)]; exact zr7 _ _ (by decide) w
  | clear=>rw [zam rfl]; exact zsd (by kernel_rfl) w (ztc (by simp [Program.fieldsOf,Tryz.underlying214]) (by kernel_rfl) (by kernel_rfl))
  | taking t2=>rw [zae (show ¬ (StD.clear = StD.taking t2) from fun z=>by cases z)]; exact zr7 _ _ (by decide) w
  | used g2 l2 b2=>rw [zae (show ¬ (StD.clear = StD.used g2 l2 b2) from fun z=>by cases z)]; exact zr7 _ _ (by decide) w
 | taking t=>
  cases c using StD.by with
  | idle=>rw [zae (show ¬ (StD.taking t = StD.idle) from fun z=>by cases z)]; exact zr7 _ _ (by decide) w
  | set b2=>rw [zae (show ¬ (StD.taking t = StD.set b2) from fun z=>by cases z)]; exact zr7 _ _ (by decide) w
  | clear=>rw [zae (show ¬ (StD.taking t = StD.clear) from fun z=>by cases z)]; exact zr7 _ _ (by decide) w
  | taking t2=>
   have h:=zsd (t:=258) (x:=.agg #[.int .i64 t]) (y:=.agg #[.int .i64 t2]) (by kernel_rfl) w (zsv (d:=9998) (ft:=3) ⟨_,by simp only [Program.fieldsOf,Tryz.underlying258]; rfl,by decide,rfl,rfl⟩ (by kernel_rfl) (by kernel_rfl) (by kernel_rfl) (run_equalIn_int (P:=Tryz.prog) w 9997 3 .i64 .i64 t t2 Tryz.underlying3));refine h.trans ?_;by_cases e:t = t2
   ·rw [zam (show StD.taking t = StD.taking t2 by rw [e]),show (t == t2) = true by simpa using e]
   ·rw [zae (show ¬ (StD.taking t = StD.taking t2) from fun z=>by cases z; exact e rfl),show (t == t2) = false by simpa using e]
  | used g2 l2 b2=>rw [zae (show ¬ (StD.taking t = StD.used g2 l2 b2) from fun z=>by cases z)]; exact zr7 _ _ (by decide) w
 | used g l b=>
  cases c using StD.by with
  | idle=>rw [zae (show ¬ (StD.used g l b = StD.idle) from fun z=>by cases z)]; exact zr7 _ _ (by decide) w
  | set b2=>rw [zae (show ¬ (StD.used g l b = StD.set b2) from fun z=>by cases z)]; exact zr7 _ _ (by decide) w
  | clear=>rw [zae (show ¬ (StD.used g l b = StD.clear) from fun z=>by cases z)]; exact zr7 _ _ (by decide) w
  | taking t2=>rw [zae (show ¬ (StD.used g l b = StD.taking t2) from fun z=>by cases z)]; exact zr7 _ _ (by decide) w
  | used g2 l2 b2=>
   have h:=zsd (t:=217) (by kernel_rfl) w (zt2 9996 g g2 l l2 b b2 ha hc w);refine h.trans ?_;rw [zbz (p:=g = g2 ∧ l = l2 ∧ b = b2) (q:=StD.used g l b = StD.used g2 l2 b2) ⟨fun z=>by rw [z.1,z.2.1,z.2.2],fun z=>by cases z; exact ⟨rfl,rfl,rfl⟩⟩]
end Go.Proofs.YtdhinkgjiapigabGreatDoor
namespace Go.Proofs.YtdhinkgjiapigabGreatDoor
open Go.RowKit Go.Deep
open Classical
def zs4 (m:Nat) (points:List (Int × Int)):Prop:=points.length = m ∧ ∀ (k:Nat) x,points[k]? = some x → zeo x
set_option maxRecDepth 100000 in
set_option maxHeartbeats 2000000 in
theorem zsy (n hd p2 p3 ok f1 f2 f3:Value) (a1:Option Addr) (m c1:Nat) (points:List (Int × Int)) (w:World) (hf2:Lies (In w) w f2 points) (_hm:m ≤ 1048576) (hl:points.length ≤ 1048576) :
  Calls Tryz.prog 77 #[.agg #[n,.slice a1 m c1,p2,p3,hd],.agg #[ok,f1,f2,f3]] w fun e w'=>e = .returned (.bool (B (zs4 m points))) ∧ Below w.heap.size w w':=by
 obtain ⟨a2,c2,rfl,q2⟩:=hf2;have HQ:=zaa q2;have T0:=zbc w 37 42 #[n,.slice a1 m c1,p2,p3,hd] #[ok,f1,.slice a2 points.length c2,f3];clear q2;go_enter Tryz.func77,Tryz.ntmps77;by_cases q0:points.length = m
 case neg=>
  have k0:((points.length:Int) != (m:Int)) = true:=by simp; omega
  have Q0:=zaa q0;clear q0;go_wp2;go_ret;exact ⟨zad (zae fun z=>Q0.out z.1).symm,T0.below⟩
 have k0:((points.length:Int) != (m:Int)) = false:=by simp; omega
 have Q0:=zaa q0;clear q0;go_wp2
 go_loopw [17] (fun z wr=>∃ (q:Nat),q ≤ points.length ∧ z = .int .i64 q ∧ (∀ (k:Nat) x,k < q → points[k]? = some x → zeo x) ∧ Boxes w [(37,#[n,.slice a1 m c1,p2,p3,hd]),(42,#[ok,f1,.slice a2 points.length c2,f3])] wr) (fun z _=>points.length - (intOf z).toNat)
 case atStart=>exact ⟨0,Nat.zero_le _,rfl,fun k x hk=>by omega,T0⟩
 case round=>
  obtain ⟨q,hq,rfl,hall,T3⟩:=hrel;have HA:=zaa hall;clear hall T0;by_cases hql:q < points.length
  ·obtain h0 | ⟨bl,ol,rfl,hbl,hc⟩:=HQ.out
   ·omega
   obtain ⟨y,hy⟩:=zb4 points hql;obtain ⟨g0,g1⟩:=hc q hql y hy;rw [← T3.below.cell (p:=⟨bl,_,none⟩) hbl] at g0 g1;have Hy:=zaa hy;have T4:=T3.call (zab _ (.cells #[.int .i64 y.1,.int .i64 y.2] 90));have hno:¬ zeo y → B (zs4 m points) = false:=fun z=>zae fun k=>z (k.2 q y Hy.out);have HNO:=zaa hno;obtain ⟨y1,y2⟩:=y;clear hy hc hno;dsimp only at g0 g1 T4;by_cases c1:y1 < 1
   ·go_wp2;go_ret;exact ⟨zad (HNO.out fun z=>by have:=z.1.1; dsimp only at this; omega).symm,T4.below⟩
   by_cases c2:2 < y1
   ·go_wp2;go_ret;exact ⟨zad (HNO.out fun z=>by have:=z.1.2; dsimp only at this; omega).symm,T4.below⟩
   by_cases c3:y2 < 0
   ·go_wp2;go_ret;exact ⟨zad (HNO.out fun z=>by have:=z.2.1; dsimp only at this; omega).symm,T4.below⟩
   by_cases c4:2 < y2
   ·go_wp2;go_ret;exact ⟨zad (HNO.out fun z=>by have:=z.2.2; dsimp only at this; omega).symm,T4.below⟩
   go_wp2;go_roundw
   case rel=>exact ⟨q + 1,by omega,by go_num,fun k x hk hx=>by
    by_cases e:k = q
    ·subst e; rw [Hy.out] at hx; cases hx; exact ⟨⟨by show 1 ≤ y1; omega,by show y1 ≤ 2; omega⟩,⟨by show 0 ≤ y2; omega,by show y2 ≤ 2; omega⟩⟩
    ·exact HA.out k x (by omega) hx,T4⟩
   case measure=>simp [intOf]; omega
  ·go_wp2;go_ret;exact ⟨zad (zam ⟨Q0.out,fun k x hx=>HA.out k x (by have:=(List.getElem?_eq_some_iff.1 hx).1; omega) hx⟩).symm,T3.below⟩
def zsp (p:PlanD) (d:FrameD) (i k:Nat):Prop:=∃ h g,p.bar i k = some true ∧ d.ways[i]? = some h ∧ d.ways[k]? = some g ∧ h.state ≠ 0 ∧ g.state ≠ 0
def zso (p:PlanD) (d:FrameD):Prop:=∃ i k,i < p.ways.length ∧ k < i ∧ zsp p d i k
set_option maxRecDepth 100000 in
set_option maxHeartbeats 4000000 in
theorem zsk (hd ok p1 p2 p3 f1 f2 f3:Value) (p:PlanD) (d:FrameD) (w:World) (hp:PlanAt (In w) w p1 p2 p3 p) (hf:FrameAt (In w) w f1 f2 f3 d) (hR:Right p) (hl:d.ways.length = p.ways.length) :
  Calls Tryz.prog 79 #[.agg #[.int .i64 p.sections,p1,p2,p3,hd],.agg #[ok,f1,f2,f3]] w fun e w'=>e = .returned (.bool (B (zso p d))) ∧ Below w.heap.size w w':=by
 have hn:p.ways.length ≤ 100:=hR.parts.1.2.2.1;obtain ⟨a2,c2,rfl⟩:=hp.2.1.size;obtain ⟨a3,c3,rfl,hc3⟩:=hp.2.2;have hbl:p.bars.length = p.ways.length:=hR.parts.2.2.2.1;rw [hbl] at hc3 ⊢;have T0:=zbc w 37 42 #[.int .i64 p.sections,p1,.slice a2 p.ways.length c2,.slice a3 p.ways.length c3,hd] #[ok,f1,f2,f3];have hkf:∀ W,Below w.heap.size w W → Helds (In W) W f3 d.ways:=fun W h=>hf.2.2.keep (In.keep h).1 (In.keep h).2;have KF:=zaa hkf;have HC3:=zaa hc3;have HR:=zaa hR;have HL:=zaa hl;have hcall:∀ (W:World) (i:Nat) h,Below w.heap.size w W → d.ways[i]? = some h → Calls Tryz.prog 139 #[.agg #[ok,f1,f2,f3],.int .i64 i] W fun e w'=>e = .returned (.bool (h.state != 0)) ∧ Below W.heap.size W w':=fun W i h hW hi=>zia ok f1 f2 f3 d.ways i h W (KF.out _ hW) hi (by have:=HL.out; omega);have HCALL:=zaa hcall;clear hkf hp hf hc3 hR hbl hl hcall;go_enter Tryz.func79,Tryz.ntmps79;go_wp2
 go_loopw [10] (fun z wr=>∃ (i:Nat),i ≤ p.ways.length ∧ z = .int .i64 i ∧ (∀ j k,j < i → k < j → ¬ zsp p d j k) ∧ Boxes w [(37,#[.int .i64 p.sections,p1,.slice a2 p.ways.length c2,.slice a3 p.ways.length c3,hd]),(42,#[ok,f1,f2,f3])] wr) (fun z _=>p.ways.length - (intOf z).toNat)
 case atStart=>exact ⟨0,Nat.zero_le _,rfl,fun j k hj=>by omega,T0⟩
 case round=>
  obtain ⟨i,hi,rfl,hno,T1⟩:=hrel;rename World=>wo;have HNO:=zaa hno;clear hno T0;by_cases hlt:i < p.ways.length
  ·obtain ⟨h,hh⟩:=zac d.ways HL hlt;have HH:=zaa hh;clear hh;go_wp2
   go_loopw [14] (fun z wr=>∃ (k:Nat),k ≤ i ∧ z = .int .i64 k ∧ (∀ j,j < k → ¬ zsp p d i j) ∧ Boxes w [(37,#[.int .i64 p.sections,p1,.slice a2 p.ways.length c2,.slice a3 p.ways.length c3,hd]),(42,#[ok,f1,f2,f3])] wr) (fun z _=>i - (intOf z).toNat)
   case atStart=>exact ⟨0,Nat.zero_le _,rfl,fun j hj=>by omega,T1⟩
   case round=>
    obtain ⟨k,hk,rfl,hnk,T2⟩:=hrel;have HNK:=zaa hnk;clear hnk T1;by_cases hkl:k < i
    ·obtain ⟨g,hg⟩:=zac d.ways HL (k:=k) (by omega);have HG:=zaa hg;obtain ⟨r,bb,hr,hrl,hrb,hbar⟩:=HR.out.row hlt (k:=k) (by omega);obtain h0 | ⟨b3,o3,rfl,hb3,hrow⟩:=HC3.out
     ·omega
     obtain ⟨v0,hv0,e0⟩:=hrow i hlt r hr;obtain ⟨av,cv,rfl,h0 | ⟨bv,ov,rfl,hbv,hcell⟩⟩:=hv0
     ·omega
     have e1:=hcell k (by omega) bb hrb;rw [← T2.below.cell (p:=⟨b3,_,none⟩) hb3] at e0;rw [← T2.below.cell (p:=⟨bv,_,none⟩) hbv] at e1
     have hkr:(k:Int) < (r.length:Int):=by omega
     have HB:=zaa hbar
     have hnx:(bb = true → h.state ≠ 0 → g.state = 0) → ∀ j,j < k + 1 → ¬ zsp p d i j:=fun hz j hj=>by
      by_cases e:j = k
      ·subst e;rintro ⟨h',g',k1,k2,k3,k4,k5⟩;rw [HH.out] at k2;rw [HG.out] at k3
       cases k2
       cases k3
       rw [HB.out] at k1;exact k5 (hz (Option.some.inj k1) k4)
      ·exact HNK.out j (by omega)
     have HNX:=zaa hnx;have q0:=T2.cell (j:=1) (i:=0) rfl rfl;have q1:=T2.cell (j:=1) (i:=1) rfl rfl;have q2:=T2.cell (j:=1) (i:=2) rfl rfl;have q3:=T2.cell (j:=1) (i:=3) rfl rfl;have b3':=T2.cell (j:=0) (i:=3) rfl rfl;rw [Nat.add_zero] at b3';clear hg hr hrb hbar hrow hcell hnx
     cases bb
     ·go_wp2;go_roundw
      case rel=>exact ⟨k + 1,by omega,by go_num,HNX.out (fun z=>by cases z),T2⟩
      case measure=>simp [intOf]; omega
     ·go_wp2_with fail
      refine (HCALL.out _ i h T2.below HH.out).mono ?_;rintro e w3 ⟨rfl,hb⟩;have T3:=T2.call hb;clear hb q0 q1 q2 q3 b3' e0 e1;have q0:=T3.cell (j:=1) (i:=0) rfl rfl;have q1:=T3.cell (j:=1) (i:=1) rfl rfl;have q2:=T3.cell (j:=1) (i:=2) rfl rfl;have q3:=T3.cell (j:=1) (i:=3) rfl rfl;by_cases s1:h.state = 0
      ·have k1:(h.state != 0) = false:=by simp [s1]
       have S1:=zaa s1;clear s1;go_wp2;go_roundw
       case rel=>exact ⟨k + 1,by omega,by go_num,HNX.out (fun _ z=>absurd S1.out z),T3⟩
       case measure=>simp [intOf]; omega
      have k1:(h.state != 0) = true:=by simp [s1]
      have S1:=zaa s1;clear s1
      go_wp2_with fail
      refine (HCALL.out _ k g T3.below HG.out).mono ?_;rintro e w4 ⟨rfl,hb⟩;have T4:=T3.call hb;clear hb q0 q1 q2 q3;by_cases s2:g.state = 0
      ·have k2:(g.state != 0) = false:=by simp [s2]
       have S2:=zaa s2;clear s2;go_wp2;go_roundw
       case rel=>exact ⟨k + 1,by omega,by go_num,HNX.out (fun _ _=>S2.out),T4⟩
       case measure=>simp [intOf]; omega
      have k2:(g.state != 0) = true:=by simp [s2]
      have S2:=zaa s2;clear s2;go_wp2;go_ret;exact ⟨zad (zam ⟨i,k,hlt,hkl,h,g,HB.out,HH.out,HG.out,S1.out,S2.out⟩).symm,T4.below⟩
    ·go_wp2;go_roundw
     case rel=>exact ⟨i + 1,by omega,by go_num,fun j q hj hq=>by
      by_cases e:j = i
      ·subst e; exact HNK.out q (by omega)
      ·exact HNO.out j q (by omega) hq,T2⟩
     case measure=>simp [intOf]; omega
  ·go_wp2;go_ret;exact ⟨zad (zae fun ⟨j,q,h1,h2,h3⟩=>HNO.out j q (by omega) h2 h3).symm,T1.below⟩
end Go.Proofs.YtdhinkgjiapigabGreatDoor
namespace Go.Proofs.YtdhinkgjiapigabGreatDoor
open Go.RowKit Go.Deep
open Classical
def ztn (p:PlanD) (d:FrameD) (i:Nat):Prop:=∀ x h,p.ways[i]? = some x → d.ways[i]? = some h → zcn p.hold x.sections.length h ∧ zar d.occ d.points x h = h
theorem zta {hold:Int} {occ:List Bool} {points:List (Int × Int)} {x:WayD} {h:HeldD} {s:StD} (hs:zp3 h = some s) (hk:zcn hold x.sections.length h) (h1:1 ≤ x.sections.length) (hn:x.sections.length ≤ 30):zcf occ points x s = s ↔ zar occ points x h = h:=by
 obtain ⟨s',e1,-,e3,e4⟩:=zof hn hk;rw [hs] at e1
 cases e1
 obtain ⟨k1,k2⟩:=zkq (occ:=occ) (points:=points) (w:=x) e3 h1 hn;rw [e4] at k1;constructor
 ·intro z;rw [z,e4] at k1;exact k1.symm
 ·intro z;refine ztg k2 e3 ?_;rw [k1,e4,z]
theorem zte (s:StD):∃ t v,stV s = .iface t v:=by cases s using StD.by <;> exact ⟨_,_,rfl⟩
theorem ztw (a c:StD) (x y:Operand) (w:World):(eqGuard .neq 165 x y (stV a) (stV c)).run Tryz.prog w = .ok () w:=by
 obtain ⟨t1,v1,h1⟩:=zte a;obtain ⟨t2,v2,h2⟩:=zte c;rw [h1,h2];rfl
theorem zty {n:Nat} {s:StD} (h:zcw n s):zt8 s:=by
 cases s using StD.by with
 | used g l b=>exact h.1
 | _=>trivial
set_option maxRecDepth 100000 in
set_option maxHeartbeats 8000000 in
theorem ztm (ok p1 p2 p3 f1 f2 f3:Value) (p:PlanD) (d:FrameD) (w:World) (hp:PlanAt (In w) w p1 p2 p3 p) (hf:FrameAt (In w) w f1 f2 f3 d) (hR:Right p) (ho:(d.occ.length:Int) = p.sections) (hpt:d.points.length = p.switches.length) (hd:d.Small 1048576) :
  Calls Tryz.prog 78 #[.agg #[.int .i64 p.sections,p1,p2,p3,.int .i64 p.hold],.agg #[ok,f1,f2,f3]] w fun e w'=>e = .returned (.bool (B (d.ways.length = p.ways.length ∧ ∀ i,i < p.ways.length → ztn p d i))) ∧ Below w.heap.size w w':=by
 have hn:p.ways.length ≤ 100:=hR.parts.1.2.2.1;have T0:=zbc w 37 42 #[.int .i64 p.sections,p1,p2,p3,.int .i64 p.hold] #[ok,f1,f2,f3];have hkf:∀ W,Below w.heap.size w W → FrameAt (In W) W f1 f2 f3 d:=fun W h=>hf.keep (In.keep h).1 (In.keep h).2;have KF:=zaa hkf;obtain ⟨a2,c2,rfl,hc2⟩:=hp.2.1;obtain ⟨a3,c3,rfl,hc3⟩:=hf.2.2;have HC2:=zaa hc2;have HC3:=zaa hc3;have HR:=zaa hR;have HO:=zaa ho;have HPT:=zaa hpt;have HD:=zaa hd;clear hkf hp hf hc2 hc3 hR ho hpt;obtain ⟨hd1,hd2,hd3,hd4⟩:=hd;have HD4:=zaa hd4;clear hd4;go_enter Tryz.func78,Tryz.ntmps78;by_cases q0:d.ways.length = p.ways.length
 case neg=>
  have k0:((d.ways.length:Int) != (p.ways.length:Int)) = true:=by simp; omega
  have Q0:=zaa q0;clear q0;go_wp2;go_ret;exact ⟨zad (zae fun z=>Q0.out z.1).symm,T0.below⟩
 have k0:((d.ways.length:Int) != (p.ways.length:Int)) = false:=by simp; omega
 have Q0:=zaa q0;clear q0;go_wp2
 go_loopw [19] (fun z wr=>∃ (i:Nat),i ≤ p.ways.length ∧ z = .int .i64 i ∧ (∀ j,j < i → ztn p d j) ∧ Boxes w [(37,#[.int .i64 p.sections,p1,.slice a2 p.ways.length c2,p3,.int .i64 p.hold]),(42,#[ok,f1,f2,.slice a3 d.ways.length c3])] wr) (fun z _=>p.ways.length - (intOf z).toNat)
 case atStart=>exact ⟨0,Nat.zero_le _,rfl,fun j hj=>by omega,T0⟩
 case round=>
  obtain ⟨i,hi,rfl,hall,T1⟩:=hrel;have HA:=zaa hall;clear hall T0;by_cases hlt:i < p.ways.length
  ·obtain ⟨x,hx⟩:=zb4 p.ways hlt;obtain ⟨h,hh⟩:=zac d.ways Q0 hlt;have hok:=HR.out.way hx;have hsm:=hok.small;obtain h0 | ⟨bw,ow,rfl,hbw,hcw⟩:=HC2.out
   ·omega
   obtain ⟨v0,v1,v2,v3,v4,hxa,g0,g1,g2,g3,g4⟩:=hcw i hlt x hx;obtain h0 | ⟨bh,oh,rfl,hbh,hch⟩:=HC3.out
   ·have:=Q0.out; omega
   obtain ⟨y2,hy2,j0,j1,j2,j3,j4⟩:=hch i (by have:=Q0.out; omega) h hh;obtain ⟨s0,t0,rfl⟩:=hxa.1.size;obtain ⟨s1,t1,rfl⟩:=hxa.2.1.size;obtain ⟨s2,t2,rfl⟩:=hxa.2.2.1.size;obtain ⟨s3,t3,rfl⟩:=hxa.2.2.2.1.size;obtain ⟨s4,t4,rfl⟩:=hxa.2.2.2.2.size;have hwl:bw < w.heap.size:=hbw;have hhl:bh < w.heap.size:=hbh;rw [← T1.below.cell (p:=⟨bw,_,none⟩) hbw] at g0 g1 g2 g3 g4;have T2:=T1.call (zab wr (.cells #[.slice s0 x.sections.length t0,.slice s1 x.lies.length t1,.slice s2 x.flanks.length t2,.slice s3 x.over.length t3,.slice s4 x.near.length t4] 122));have T3:=T2.call (zaf _);rw [← T2.below.cell (p:=⟨bh,_,none⟩) hbh] at j0 j1 j2 j3 j4;have hxk:∀ W,Below w.heap.size w W → WayAt (In W) W (.slice s0 x.sections.length t0) (.slice s1 x.lies.length t1) (.slice s2 x.flanks.length t2) (.slice s3 x.over.length t3) (.slice s4 x.near.length t4) x:=fun W k=>hxa.keep (In.keep k).1 (In.keep k).2;have hyk:∀ W,Below w.heap.size w W → Bools (In W) W y2 h.been:=fun W k=>hy2.keep (In.keep k).1 (In.keep k).2;have KX:=zaa hxk;obtain ⟨ay,cy,rfl⟩:=hy2.size
   have hn1:1 ≤ x.sections.length:=by
    rcases Nat.eq_zero_or_pos x.sections.length with z | z
    ·exact absurd (List.length_eq_zero_iff.1 z) hok.1
    ·exact z
   have hcall:Calls Tryz.prog 137 #[.agg #[.int .i64 p.sections,p1,.slice (some ⟨bw,ow,none⟩) p.ways.length c2,p3,.int .i64 p.hold],.agg #[.slice s0 x.sections.length t0,.slice s1 x.lies.length t1,.slice s2 x.flanks.length t2,.slice s3 x.over.length t3,.slice s4 x.near.length t4],.agg #[.int .i64 h.state,.int .i64 h.gone,.slice ay h.been.length cy,.bool h.shown,.int .i64 h.timer]] (wr.alloc (.cells #[.slice s0 x.sections.length t0,.slice s1 x.lies.length t1,.slice s2 x.flanks.length t2,.slice s3 x.over.length t3,.slice s4 x.near.length t4] 122)).drew fun e w'=>∃ v,e = .returned (.tuple #[v,.bool (B (zcn p.hold x.sections.length h))]) ∧ (zcn p.hold x.sections.length h → ∃ s,zp3 h = some s ∧ v = stV s) ∧ Boxes w [(37,#[.int .i64 p.sections,p1,.slice (some ⟨bw,ow,none⟩) p.ways.length c2,p3,.int .i64 p.hold]),(42,#[ok,f1,f2,.slice (some ⟨bh,oh,none⟩) d.ways.length c3])] w' ∧ (w'.cell? ⟨wr.heap.size,0,none⟩ = some (.slice s0 x.sections.length t0) ∧ w'.cell? ⟨wr.heap.size,1,none⟩ = some (.slice s1 x.lies.length t1) ∧ w'.cell? ⟨wr.heap.size,2,none⟩ = some (.slice s2 x.flanks.length t2) ∧ w'.cell? ⟨wr.heap.size,3,none⟩ = some (.slice s3 x.over.length t3) ∧ w'.cell? ⟨wr.heap.size,4,none⟩ = some (.slice s4 x.near.length t4)):=by
    refine (zs0 _ _ _ _ _ _ _ _ _ _ p.hold h x _ (hxk _ T3.below) (hyk _ T3.below) hsm hn1 (HD4.out h (List.mem_of_getElem? hh))).mono ?_;rintro e w' ⟨v,rfl,hv,hb⟩;have hr:=zal (zal (zak wr 122 #[.slice s0 x.sections.length t0,.slice s1 x.lies.length t1,.slice s2 x.flanks.length t2,.slice s3 x.over.length t3,.slice s4 x.near.length t4]) (zaf _)) hb;exact ⟨v,rfl,hv,T3.call hb,by simpa using hr.cell (i:=0) (by simp),by simpa using hr.cell (i:=1) (by simp),by simpa using hr.cell (i:=2) (by simp),by simpa using hr.cell (i:=3) (by simp),by simpa using hr.cell (i:=4) (by simp)⟩
   have HCALL:=zaa hcall
   have hsc:∀ s,(s ∈ x.sections ∨ s ∈ x.over) → 0 ≤ s ∧ s < d.occ.length:=fun s hs=>by
    have e:=HO.out;rcases hs with z | z
    ·have:=hok.2.1.mem z; omega
    ·have:=hok.2.2.1.mem z; omega
   have hlc:∀ y,(y ∈ x.lies ∨ y ∈ x.flanks) → 0 ≤ y.1 ∧ y.1 < d.points.length:=fun y hy=>by
    have e:=HPT.out;rcases hy with z | z
    ·have:=hok.2.2.2.2.1.mem z; omega
    ·have:=hok.2.2.2.2.2.1.mem z; omega
   have HSC:=zaa hsc;have HLC:=zaa hlc;have HSM:=zaa hsm;have HX:=zaa hx;have HH:=zaa hh;have b0:=T2.cell (j:=0) (i:=0) rfl rfl;have b1:=T2.cell (j:=0) (i:=1) rfl rfl;have b2:=T2.cell (j:=0) (i:=2) rfl rfl;have b3:=T2.cell (j:=0) (i:=3) rfl rfl;have b4:=T2.cell (j:=0) (i:=4) rfl rfl;have e3:=T2.cell (j:=1) (i:=3) rfl rfl;rw [Nat.add_zero] at b0 b1 b2 b3 b4
   have m0:(wr.alloc (.cells #[.slice s0 x.sections.length t0,.slice s1 x.lies.length t1,.slice s2 x.flanks.length t2,.slice s3 x.over.length t3,.slice s4 x.near.length t4] 122)).cell? ⟨wr.heap.size,0,none⟩ = some (.slice s0 x.sections.length t0):=by simp
   have m1:(wr.alloc (.cells #[.slice s0 x.sections.length t0,.slice s1 x.lies.length t1,.slice s2 x.flanks.length t2,.slice s3 x.over.length t3,.slice s4 x.near.length t4] 122)).cell? ⟨wr.heap.size,1,none⟩ = some (.slice s1 x.lies.length t1):=by simp
   have m2:(wr.alloc (.cells #[.slice s0 x.sections.length t0,.slice s1 x.lies.length t1,.slice s2 x.flanks.length t2,.slice s3 x.over.length t3,.slice s4 x.near.length t4] 122)).cell? ⟨wr.heap.size,2,none⟩ = some (.slice s2 x.flanks.length t2):=by simp
   have m3:(wr.alloc (.cells #[.slice s0 x.sections.length t0,.slice s1 x.lies.length t1,.slice s2 x.flanks.length t2,.slice s3 x.over.length t3,.slice s4 x.near.length t4] 122)).cell? ⟨wr.heap.size,3,none⟩ = some (.slice s3 x.over.length t3):=by simp
   have m4:(wr.alloc (.cells #[.slice s0 x.sections.length t0,.slice s1 x.lies.length t1,.slice s2 x.flanks.length t2,.slice s3 x.over.length t3,.slice s4 x.near.length t4] 122)).cell? ⟨wr.heap.size,4,none⟩ = some (.slice s4 x.near.length t4):=by simp
   have hdl:(i:Int) < (d.ways.length:Int):=by have:=Q0.out; omega
   have hno:∀ z:¬ (zcn p.hold x.sections.length h ∧ zar d.occ d.points x h = h),B (d.ways.length = p.ways.length ∧ ∀ i,i < p.ways.length → ztn p d i) = false:=fun z=>zae fun k=>z (k.2 i hlt x h HX.out HH.out);have HNO:=zaa hno;clear hcall hcw hch hxa hxk hyk hy2 hok hsm hsc hlc hx hh hno T1 T2 T3
   go_upto_region 6 with fail
   go_cut [7,8] (fun va vb wc=>vb = .bool (B (zcn p.hold x.sections.length h)) ∧ (zcn p.hold x.sections.length h → ∃ s,zp3 h = some s ∧ va = stV s) ∧ Boxes w [(37,#[.int .i64 p.sections,p1,.slice (some ⟨bw,ow,none⟩) p.ways.length c2,p3,.int .i64 p.hold]),(42,#[ok,f1,f2,.slice (some ⟨bh,oh,none⟩) d.ways.length c3])] wc ∧ (wc.cell? ⟨wr.heap.size,0,none⟩ = some (.slice s0 x.sections.length t0) ∧ wc.cell? ⟨wr.heap.size,1,none⟩ = some (.slice s1 x.lies.length t1) ∧ wc.cell? ⟨wr.heap.size,2,none⟩ = some (.slice s2 x.flanks.length t2) ∧ wc.cell? ⟨wr.heap.size,3,none⟩ = some (.slice s3 x.over.length t3) ∧ wc.cell? ⟨wr.heap.size,4,none⟩ = some (.slice s4 x.near.length t4)))
   case first=>
    go_region_with (go_at_call 137; refine HCALL.out.mono ?_; rintro e w2 ⟨v,rfl,hv,T4,r0,r1,r2,r3,r4⟩; have HV:=zaa hv; have HT4:=zaa T4; clear hv T4)
    all_goals
     go_wp2_with fail
     go_meet;exact ⟨rfl,HV.out,HT4.out,r0,r1,r2,r3,r4⟩
   case rest=>
    obtain ⟨rfl,hv,T4,r0,r1,r2,r3,r4⟩:=hcut;have HV:=zaa hv;clear hv HCALL b0 b1 b2 b3 b4 e3 m0 m1 m2 m3 m4 j0 j1 j2 j3 j4 g0 g1 g2 g3 g4;by_cases q:zcn p.hold x.sections.length h
    case neg=>
     rw [zae q];have Q:=zaa q;clear q;go_wp2;go_ret;exact ⟨zad (HNO.out fun z=>Q.out z.1).symm,T4.below⟩
    rw [zam q];obtain ⟨s,hs,hvs⟩:=HV.out q;obtain ⟨s',hs',-,hfit,-⟩:=zof HSM.out.1 q;rw [hs] at hs'
    cases hs'
    have hset:=zln ok f1 f2 (.slice (some ⟨bh,oh,none⟩) d.ways.length c3) _ _ _ _ _ s d.occ d.points x _ (KF.out _ T4.below).1 (KF.out _ T4.below).2.1 (KX.out _ T4.below) HSM.out HLC.out HSC.out ⟨hd2,hd1⟩ hn1 hfit;have hneq:=zt5 (zcf d.occ d.points x s) s (zty (zkq hfit hn1 HSM.out.1).2) (zty hfit);have hgd:=ztw (zcf d.occ d.points x s) s;have hiff:=zta (occ:=d.occ) (points:=d.points) hs q hn1 HSM.out.1;rw [← hvs] at hset hneq hgd;have HQ:=zaa q;have HSET:=zaa hset;have HIFF:=zaa hiff;have q0:=T4.cell (j:=1) (i:=0) rfl rfl;have q1:=T4.cell (j:=1) (i:=1) rfl rfl;have q2:=T4.cell (j:=1) (i:=2) rfl rfl;have q3:=T4.cell (j:=1) (i:=3) rfl rfl;obtain ⟨tv,htv⟩:∃ v,v = stV (zcf d.occ d.points x s):=⟨_,rfl⟩;rw [← htv] at hneq hgd HSET;clear q hs hvs hset hiff htv hfit
    go_wp2_with fail
    refine HSET.out.mono ?_;rintro e w5 ⟨rfl,hb⟩;have T5:=T4.call hb;clear hb T4 q0 q1 q2 q3 r0 r1 r2 r3 r4;by_cases e:zcf d.occ d.points x s = s
    ·rw [zam e] at hneq;have E:=zaa e;clear e;go_wp2;go_roundw
     case rel=>
      exact ⟨i + 1,by omega,by go_num,fun j hj=>by
       by_cases ej:j = i
       ·subst ej;intro x' h' k1 k2;rw [HX.out] at k1;rw [HH.out] at k2
        cases k1
        cases k2
        exact ⟨HQ.out,HIFF.out.1 E.out⟩
       ·exact HA.out j (by omega),T5⟩
     case measure=>simp [intOf]; omega
    ·rw [zae e] at hneq;have E:=zaa e;clear e;go_wp2;go_ret;exact ⟨zad (HNO.out fun z=>E.out (HIFF.out.2 z.2)).symm,T5.below⟩
  ·go_wp2;go_ret;exact ⟨zad (zam ⟨Q0.out,fun j hj=>HA.out j (by omega)⟩).symm,T1.below⟩
end Go.Proofs.YtdhinkgjiapigabGreatDoor
namespace Go.Proofs.YtdhinkgjiapigabGreatDoor
open Go.RowKit Go.Deep
open Classical
theorem ztu {p:PlanD} (h:Right p) {i k:Nat} (hi:i < p.ways.length) (hk:k < p.ways.length) (hb:p.bar i k = some true):p.bar k i = some true:=by
 obtain ⟨r,b,-,-,-,hbar⟩:=h.row hk hi
 cases b with
 | true=>exact hbar
 | false=>
  exfalso;refine h.parts.2.2.2.2.2 i ⟨hi,k,hk,?_⟩;exact .inl (by rw [hb,hbar]; intro z; cases z)
theorem zsg {p:PlanD} {d:FrameD} (hR:Right p) (hl:d.ways.length = p.ways.length):((∀ i,i < p.ways.length → ztn p d i) ∧ ¬ zso p d) ↔ ((∀ i,i < d.ways.length → zqr p d i) ∧ d.ways = (zbu p.ways d).ways):=by
 constructor
 ·rintro ⟨h1,h2⟩;refine ⟨fun i hi x h hx hh=>⟨(h1 i (by omega) x h hx hh).1,fun k g hne hg hb hs=>?_⟩,?_⟩
  ·apply Decidable.byContradiction;intro hgs
   have hk:k < p.ways.length:=by have:=(List.getElem?_eq_some_iff.1 hg).1; omega
   rcases Nat.lt_or_ge k i with e | e
   ·exact h2 ⟨i,k,by omega,e,h,g,hb,hh,hg,hs,hgs⟩
   ·exact h2 ⟨k,i,hk,by omega,g,h,ztu hR (by omega) hk hb,hg,hh,hgs,hs⟩
  ·unfold zbu;apply List.ext_getElem?;intro j;show d.ways[j]? = (List.zipWith (zar d.occ d.points) p.ways d.ways)[j]?;rw [List.getElem?_zipWith];by_cases hj:j < p.ways.length
   ·obtain ⟨x,hx⟩:=zb4 p.ways hj;obtain ⟨h,hh⟩:=zb4 d.ways (i:=j) (by omega);rw [hx,hh];exact congrArg some (h1 j hj x h hx hh).2.symm
   ·rw [List.getElem?_eq_none (by omega:p.ways.length ≤ j),List.getElem?_eq_none (by omega:d.ways.length ≤ j)]
 ·rintro ⟨h1,h2⟩;refine ⟨fun i hi x h hx hh=>⟨(h1 i (by omega) x h hx hh).1,?_⟩,?_⟩
  ·have:=congrArg (fun l=>l[i]?) h2;simp only [zbu] at this;rw [List.getElem?_zipWith,hx,hh] at this;exact (Option.some.inj this).symm
  ·rintro ⟨i,k,hi,hk,h,g,hb,hh,hg,hs,hgs⟩;obtain ⟨x,hx⟩:=zb4 p.ways hi;exact hgs ((h1 i (by omega) x h hx hh).2 k g (by omega) hg hb hs)
set_option maxRecDepth 100000 in
set_option maxHeartbeats 4000000 in
theorem zsi (p1 p2 p3 f1 f2 f3:Value) (p:PlanD) (d:FrameD) (w:World) (hp:PlanAt (In w) w p1 p2 p3 p) (hf:FrameAt (In w) w f1 f2 f3 d) (hs:p.Small 1048576) (hd:d.Small 1048576) (hg:w.cell? ⟨1,0,none⟩ = some zrv) :
  Calls Tryz.prog 18 #[.agg #[.int .i64 p.sections,p1,p2,p3,.int .i64 p.hold],.agg #[.bool d.ok,f1,f2,f3]] w fun e w'=>e = .returned (.bool (B (zas p d))) ∧ Below w.heap.size w w':=by
 obtain ⟨okb,hok⟩:∃ c,d.ok = c:=⟨_,rfl⟩;rw [hok];have HOK:=zaa hok;have T0:=zbc w 37 42 #[.int .i64 p.sections,p1,p2,p3,.int .i64 p.hold] #[.bool okb,f1,f2,f3];have hkp:∀ W,Below w.heap.size w W → PlanAt (In W) W p1 p2 p3 p:=fun W h=>hp.keep (In.keep h).1 (In.keep h).2;have hkf:∀ W,Below w.heap.size w W → FrameAt (In W) W f1 f2 f3 d:=fun W h=>hf.keep (In.keep h).1 (In.keep h).2;have KP:=zaa hkp;have KF:=zaa hkf;obtain ⟨a1,c1,rfl⟩:=hp.1.size;obtain ⟨o1,m1,rfl⟩:=hf.1.size;have hg0:=ck hg T0.below;have hsw:=hs.1;have HD:=zaa hd;have hd1:=hd.1;have hd2:=hd.2.1;clear hok hkp hkf hp hf hg hd;go_enter Tryz.func18,Tryz.ntmps18
 go_wp2_with fail
 refine (zfh _ _ _ p _ (KP.out _ T0.below) hs hg0).mono ?_;rintro e w1 ⟨rfl,hb⟩;have T1:=T0.call hb;clear hb T0 hg0 hs;by_cases q:Right p
 case neg=>
  rw [zae q];have Q:=zaa q;clear q;go_wp2;go_ret;exact ⟨zad (zae fun h=>Q.out h.1).symm,T1.below⟩
 rw [zam q];have Q:=zaa q;clear q;have b0:=T1.cell (j:=0) (i:=0) rfl rfl;have b1:=T1.cell (j:=0) (i:=1) rfl rfl;have b2:=T1.cell (j:=0) (i:=2) rfl rfl;have b3:=T1.cell (j:=0) (i:=3) rfl rfl;have b4:=T1.cell (j:=0) (i:=4) rfl rfl;have e0:=T1.cell (j:=1) (i:=0) rfl rfl;have e1:=T1.cell (j:=1) (i:=1) rfl rfl;have e2:=T1.cell (j:=1) (i:=2) rfl rfl;have e3:=T1.cell (j:=1) (i:=3) rfl rfl;rw [Nat.add_zero] at b0 b1 b2 b3 b4
 cases okb with
 | false=>
  go_wp2;go_ret;exact ⟨zad (zae fun h=>by have:=h.2.1; rw [HOK.out] at this; cases this).symm,T1.below⟩
 | true=>
 by_cases ho:(d.occ.length:Int) = p.sections
 case neg=>
  have k0:((d.occ.length:Int) == p.sections) = false:=by simpa using ho
  have HO:=zaa ho;clear ho;go_wp2;go_ret;exact ⟨zad (zae fun h=>HO.out h.2.2.1).symm,T1.below⟩
 have k0:((d.occ.length:Int) == p.sections) = true:=by simpa using ho
 have HO:=zaa ho;clear ho
 go_wp2_with fail
 refine (zsy _ _ _ _ _ _ _ _ a1 p.switches.length c1 d.points _ (KF.out _ T1.below).2.1 hsw hd2).mono ?_;clear b0 b1 b2 b3 b4 e0 e1 e2 e3;rintro e w2 ⟨rfl,hb⟩;have T2:=T1.call hb;clear hb T1;have b0:=T2.cell (j:=0) (i:=0) rfl rfl;have b1:=T2.cell (j:=0) (i:=1) rfl rfl;have b2:=T2.cell (j:=0) (i:=2) rfl rfl;have b3:=T2.cell (j:=0) (i:=3) rfl rfl;have b4:=T2.cell (j:=0) (i:=4) rfl rfl;have e0:=T2.cell (j:=1) (i:=0) rfl rfl;have e1:=T2.cell (j:=1) (i:=1) rfl rfl;have e2:=T2.cell (j:=1) (i:=2) rfl rfl;have e3:=T2.cell (j:=1) (i:=3) rfl rfl;rw [Nat.add_zero] at b0 b1 b2 b3 b4;by_cases hpt:zs4 p.switches.length d.points
 case neg=>
  rw [zae hpt];have HPT:=zaa hpt;clear hpt;go_wp2;go_ret;exact ⟨zad (zae fun h=>HPT.out ⟨h.2.2.2.1,h.2.2.2.2.2.1⟩).symm,T2.below⟩
 rw [zam hpt];have HPT:=zaa hpt;clear hpt
 go_wp2_with fail
 refine (ztm _ _ _ _ _ _ _ p d _ (KP.out _ T2.below) (KF.out _ T2.below) Q.out HO.out HPT.out.1 HD.out).mono ?_;clear b0 b1 b2 b3 b4 e0 e1 e2 e3;rintro e w3 ⟨rfl,hb⟩;have T3:=T2.call hb;clear hb T2;have b0:=T3.cell (j:=0) (i:=0) rfl rfl;have b1:=T3.cell (j:=0) (i:=1) rfl rfl;have b2:=T3.cell (j:=0) (i:=2) rfl rfl;have b3:=T3.cell (j:=0) (i:=3) rfl rfl;have b4:=T3.cell (j:=0) (i:=4) rfl rfl;have e0:=T3.cell (j:=1) (i:=0) rfl rfl;have e1:=T3.cell (j:=1) (i:=1) rfl rfl;have e2:=T3.cell (j:=1) (i:=2) rfl rfl;have e3:=T3.cell (j:=1) (i:=3) rfl rfl;rw [Nat.add_zero] at b0 b1 b2 b3 b4;by_cases hw:d.ways.length = p.ways.length ∧ ∀ i,i < p.ways.length → ztn p d i
 case neg=>
  rw [zae hw];have HW:=zaa hw;clear hw;go_wp2;go_ret;exact ⟨zad (zae fun h=>HW.out ⟨h.2.2.2.2.1,((zsg Q.out h.2.2.2.2.1).2 ⟨h.2.2.2.2.2.2.1,h.2.2.2.2.2.2.2⟩).1⟩).symm,T3.below⟩
 rw [zam hw];have HW:=zaa hw;clear hw
 go_wp2_with fail
 refine (zsk _ _ _ _ _ _ _ _ p d _ (KP.out _ T3.below) (KF.out _ T3.below) Q.out HW.out.1).mono ?_;clear b0 b1 b2 b3 b4 e0 e1 e2 e3;rintro e w4 ⟨rfl,hb⟩;have T4:=T3.call hb;clear hb T3
 have hfin:(!(B (zso p d))) = B (zas p d):=by
  by_cases hba:zso p d
  ·rw [zam hba,zae fun h=>((zsg Q.out HW.out.1).2 ⟨h.2.2.2.2.2.2.1,h.2.2.2.2.2.2.2⟩).2 hba];rfl
  ·have:=(zsg Q.out HW.out.1).1 ⟨HW.out.2,hba⟩;rw [zae hba,zam (show zas p d from ⟨Q.out,HOK.out,HO.out,HPT.out.1,HW.out.1,HPT.out.2,this.1,this.2⟩)];rfl
 have HFIN:=zaa hfin;clear hfin;go_wp2;go_ret;exact ⟨zad HFIN.out,T4.below⟩
end Go.Proofs.YtdhinkgjiapigabGreatDoor
namespace Go.Proofs.YtdhinkgjiapigabGreatDoor
open Go.RowKit Go.Deep
open Classical
end Go.Proofs.YtdhinkgjiapigabGreatDoor
namespace Go.Proofs.YtdhinkgjiapigabGreatDoor
open Go.RowKit Go.Deep
open Classical
end Go.Proofs.YtdhinkgjiapigabGreatDoor
namespace Go.Proofs.YtdhinkgjiapigabGreatDoor
open Go.RowKit
open Classical
end Go.Proofs.YtdhinkgjiapigabGreatDoor
