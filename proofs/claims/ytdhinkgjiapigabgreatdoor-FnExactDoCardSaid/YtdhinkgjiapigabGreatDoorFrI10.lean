import Derived.Test.YtdhinkgjiapigabGreatDoorFrI8
namespace Go.Proofs.YtdhinkgjiapigabGreatDoor
open Go.RowKit Go.Deep
open Classical
theorem st_state {n:Nat} {h:HeldD} {s:StD} (hs:stOf h = some s):(heldOf n s).state = h.state:=by
 unfold stOf at hs
 split at hs
 ·cases hs; rename_i e; rw [e]; rfl
 split at hs
 ·cases hs; rename_i e; rw [e]; rfl
 split at hs
 ·cases hs; rename_i e; rw [e]; rfl
 split at hs
 ·cases hs; rename_i e; rw [e]; rfl
 split at hs
 ·cases hs; rename_i e; rw [e]; rfl
 ·cases hs
theorem held_iff {hold:Int} {n:Nat} {h:HeldD} {s:StD} (hs:stOf h = some s) (hb:h.been.length = n) (h1:1 ≤ n) (hn:n ≤ 30):HeldOk hold n h ↔ stOk hold n s ∧ ((heldOf n s).gone = h.gone ∧ (heldOf n s).shown = h.shown ∧ (heldOf n s).timer = h.timer ∧ (heldOf n s).been = h.been):=by
 constructor
 ·intro z
  obtain ⟨s',e1,e2,-,e4⟩:=heldOk_of hn z
  rw [hs] at e1
  cases e1
  exact ⟨e2,by rw [e4],by rw [e4],by rw [e4],by rw [e4]⟩
 ·rintro ⟨z,e1,e2,e3,e4⟩
  refine of_heldOk hb h1 hn hs z ?_
  have e0:=st_state (n:=n) hs
  obtain ⟨a,b,c,d,e⟩:=h
  generalize heldOf n s = y at *
  obtain ⟨a',b',c',d',e'⟩:=y
  simp only at e0 e1 e2 e3 e4
  rw [e0,e1,e2,e3,e4]
theorem heldOf_len {n:Nat} {h:HeldD} {s:StD} (hs:stOf h = some s) (hb:h.been.length = n):(heldOf n s).been.length = n:=by
 subst hb
 unfold stOf at hs
 split at hs
 ·cases hs; simp [heldOf]
 split at hs
 ·cases hs; simp [heldOf]
 split at hs
 ·cases hs; simp [heldOf]
 split at hs
 ·cases hs; simp [heldOf]
 split at hs
 ·cases hs; simp [heldOf,pad]
 ·cases hs
theorem stOf_fit {h:HeldD} {s:StD} (hs:stOf h = some s) (hn:h.been.length ≤ 30):match s with | .inr (.inr (.inr (.inr (_,l,_))))=>l.length = 30 | _=>True:=by
 unfold stOf at hs
 split at hs
 ·cases hs; trivial
 split at hs
 ·cases hs; trivial
 split at hs
 ·cases hs; trivial
 split at hs
 ·cases hs; trivial
 split at hs
 ·cases hs; exact pad_length hn
 ·cases hs
theorem Tryz.inv_idle_ok (v : Value) (w : World) : (method 453 183 v "loop.example/tappet/impl.ok").run Tryz.prog w = .ok (292, v) w := by kernel_rfl
theorem Tryz.inv_idle_held (v : Value) (w : World) : (method 453 183 v "loop.example/tappet/impl.held").run Tryz.prog w = .ok (149, v) w := by kernel_rfl
theorem Tryz.inv_set_ok (v : Value) (w : World) : (method 453 212 v "loop.example/tappet/impl.ok").run Tryz.prog w = .ok (294, v) w := by kernel_rfl
theorem Tryz.inv_set_held (v : Value) (w : World) : (method 453 212 v "loop.example/tappet/impl.held").run Tryz.prog w = .ok (225, v) w := by kernel_rfl
theorem Tryz.inv_clear_ok (v : Value) (w : World) : (method 453 214 v "loop.example/tappet/impl.ok").run Tryz.prog w = .ok (296, v) w := by kernel_rfl
theorem Tryz.inv_clear_held (v : Value) (w : World) : (method 453 214 v "loop.example/tappet/impl.held").run Tryz.prog w = .ok (295, v) w := by kernel_rfl
theorem Tryz.inv_taking_ok (v : Value) (w : World) : (method 453 258 v "loop.example/tappet/impl.ok").run Tryz.prog w = .ok (305, v) w := by kernel_rfl
theorem Tryz.inv_taking_held (v : Value) (w : World) : (method 453 258 v "loop.example/tappet/impl.held").run Tryz.prog w = .ok (304, v) w := by kernel_rfl
theorem Tryz.inv_used_ok (v : Value) (w : World) : (method 453 217 v "loop.example/tappet/impl.ok").run Tryz.prog w = .ok (298, v) w := by kernel_rfl
theorem Tryz.inv_used_held (v : Value) (w : World) : (method 453 217 v "loop.example/tappet/impl.held").run Tryz.prog w = .ok (297, v) w := by kernel_rfl
set_option maxRecDepth 100000 in
set_option maxHeartbeats 8000000 in
theorem readHeld_any (p0 p1 p2 p3 u0 u1 u2 u3 u4 v2:Value) (hold:Int) (h:HeldD) (x:WayD) (w:World) (hx:WayAt (In w) w u0 u1 u2 u3 u4 x) (hb:Bools (In w) w v2 h.been) (hs:x.Small 30) (hn1:1 ≤ x.sections.length) (hbl:h.been.length ≤ 1048576) :
  Calls Tryz.prog 137 #[.agg #[p0,p1,p2,p3,.int .i64 hold],.agg #[u0,u1,u2,u3,u4],.agg #[.int .i64 h.state,.int .i64 h.gone,v2,.bool h.shown,.int .i64 h.timer]] w fun e w'=>∃ v,e = .returned (.tuple #[v,.bool (B (HeldOk hold x.sections.length h))]) ∧ (HeldOk hold x.sections.length h → ∃ s,stOf h = some s ∧ v = stV s) ∧ Below w.heap.size w w':=by
 have T0:=boxes3 w 37 122 93 #[p0,p1,p2,p3,.int .i64 hold] #[u0,u1,u2,u3,u4] #[.int .i64 h.state,.int .i64 h.gone,v2,.bool h.shown,.int .i64 h.timer]
 have hk1:∀ W,Below w.heap.size w W → Bools (In W) W v2 h.been:=fun W k=>hb.keep (In.keep k).1 (In.keep k).2
 have hk3:∀ W,Below w.heap.size w W → WayAt (In W) W u0 u1 u2 u3 u4 x:=fun W k=>hx.keep (In.keep k).1 (In.keep k).2
 have K1:=hide hk1
 have K3:=hide hk3
 have HS:=hide hs
 obtain ⟨a0,c0,rfl⟩:=hx.1.size
 obtain ⟨a2,c2,rfl⟩:=hb.size
 clear hk1 hk3 hx hb hs
 go_enter Tryz.func137,Tryz.ntmps137
 by_cases q0:h.been.length = x.sections.length
 case neg=>
  have k0:((h.been.length:Int) != (x.sections.length:Int)) = true:=by simp; omega
  have Q0:=hide q0
  clear q0
  go_wp2
  exact bodyPost_ret (v:=.tuple #[.nilIface,.bool false]) (by simp [results,Tryz.results137,go_sem]) rfl ⟨_,by rw [B_false fun z=>Q0.out z.2.1],fun z=>absurd z.2.1 Q0.out,T0.below⟩
 have k0:((h.been.length:Int) != (x.sections.length:Int)) = false:=by simp; omega
 have Q0:=hide q0
 clear q0
 have hso:=standingOf_any h (.slice a2 h.been.length c2) _ (K1.out _ T0.below) (by have:=Q0.out; have:=HS.out.1; omega) (by have:=Q0.out; omega)
 go_wp2_with fail
 refine hso.mono ?_
 clear hso
 rintro e w1 ⟨rfl,hb1⟩
 have T1:=T0.call hb1
 clear T0 hb1
 have b0:=T1.cell (j:=0) (i:=0) rfl rfl
 have b1:=T1.cell (j:=0) (i:=1) rfl rfl
 have b2:=T1.cell (j:=0) (i:=2) rfl rfl
 have b3:=T1.cell (j:=0) (i:=3) rfl rfl
 have b4:=T1.cell (j:=0) (i:=4) rfl rfl
 have d0:=T1.cell (j:=1) (i:=0) rfl rfl
 have d1:=T1.cell (j:=1) (i:=1) rfl rfl
 have d2:=T1.cell (j:=1) (i:=2) rfl rfl
 have d3:=T1.cell (j:=1) (i:=3) rfl rfl
 have d4:=T1.cell (j:=1) (i:=4) rfl rfl
 have q0:=T1.cell (j:=2) (i:=0) rfl rfl
 have q1:=T1.cell (j:=2) (i:=1) rfl rfl
 have q2:=T1.cell (j:=2) (i:=2) rfl rfl
 have q3:=T1.cell (j:=2) (i:=3) rfl rfl
 have q4:=T1.cell (j:=2) (i:=4) rfl rfl
 rw [Nat.add_zero] at b0 b1 b2 b3 b4
 cases hst:stOf h with
 | none=>
  have HST:=hide hst
  clear hst
  simp only [stVo]
  go_wp2
  have hno:¬ HeldOk hold x.sections.length h:=fun z=>by
   obtain ⟨s,hs,-⟩:=heldOk_of HS.out.1 z
   rw [HST.out] at hs
   cases hs
  exact bodyPost_ret (v:=.tuple #[.nilIface,.bool false]) (by simp [results,Tryz.results137,go_sem]) rfl ⟨_,by rw [B_false hno],fun z=>absurd z hno,T1.below⟩
 | some s=>
  have HST:=hide hst
  clear hst
  simp only [stVo]
  cases s using StD.by with
  | idle=>
   simp only [stV]
   have m1:=Tryz.inv_idle_ok (.agg #[])
   have m2:=Tryz.inv_idle_held (.agg #[])
   go_wp2_with fail
   refine (idleOk_any p0 p1 p2 p3 _ _ u1 u2 u3 u4 _).mono ?_
   clear b0 b1 b2 b3 b4 d0 d1 d2 d3 d4 q0 q1 q2 q3 q4
   rintro e w2 ⟨rfl,hb2⟩
   have T2:=T1.call hb2
   clear T1 hb2
   have b0:=T2.cell (j:=0) (i:=0) rfl rfl
   have b1:=T2.cell (j:=0) (i:=1) rfl rfl
   have b2:=T2.cell (j:=0) (i:=2) rfl rfl
   have b3:=T2.cell (j:=0) (i:=3) rfl rfl
   have b4:=T2.cell (j:=0) (i:=4) rfl rfl
   have d0:=T2.cell (j:=1) (i:=0) rfl rfl
   have d1:=T2.cell (j:=1) (i:=1) rfl rfl
   have d2:=T2.cell (j:=1) (i:=2) rfl rfl
   have d3:=T2.cell (j:=1) (i:=3) rfl rfl
   have d4:=T2.cell (j:=1) (i:=4) rfl rfl
   have q0:=T2.cell (j:=2) (i:=0) rfl rfl
   have q1:=T2.cell (j:=2) (i:=1) rfl rfl
   have q2:=T2.cell (j:=2) (i:=2) rfl rfl
   have q3:=T2.cell (j:=2) (i:=3) rfl rfl
   have q4:=T2.cell (j:=2) (i:=4) rfl rfl
   rw [Nat.add_zero] at b0 b1 b2 b3 b4
   have HO:Hid (stOk hold x.sections.length .idle):=trivial
   go_wp2_with fail
   refine (idleHeld_any _ u1 u2 u3 u4 x.sections _ (K3.out _ T2.below).1 hn1 HS.out.1).mono ?_
   clear b0 b1 b2 b3 b4 d0 d1 d2 d3 d4 q0 q1 q2 q3 q4
   rintro e w3 ⟨v',bq,rfl,hO,hq,hb3⟩
   have T3:=T2.call hb3
   clear T2 hb3
   obtain ⟨y,hy⟩:∃ y,y = heldOf x.sections.length .idle:=⟨_,rfl⟩
   have HIFF:=hide (held_iff (hold:=hold) HST.out Q0.out hn1 HS.out.1)
   have hyl:y.been.length = x.sections.length:=by rw [hy]; exact heldOf_len HST.out Q0.out
   rw [← hy] at hO HIFF ⊢
   have HYL:=hide hyl
   clear hy hyl
   have HOB:=hide hO
   have hkb:Bools (In w3) w3 v' y.been:=hO.read hO.lt
   obtain ⟨gq,Mq,capq,rfl,-,-,-⟩:=hO
   have TA:=T3.call (below_new w3 (.cells #[.int .i64 y.state,.int .i64 y.gone,.slice (some ⟨bq,0,none⟩) y.been.length capq,.bool y.shown,.int .i64 y.timer] 93))
   have hbA:=below_new w3 (.cells #[.int .i64 y.state,.int .i64 y.gone,.slice (some ⟨bq,0,none⟩) y.been.length capq,.bool y.shown,.int .i64 y.timer] 93)
   have hkb2:=hkb.keep (In.keep hbA).1 (In.keep hbA).2
   have HEQ:=hide (equalB_any _ _ y.been h.been _ hkb2 (K1.out _ TA.below) (by have:=HS.out.1; have:=HYL.out; omega) hbl)
   have b0:=TA.cell (j:=0) (i:=0) rfl rfl
   have b1:=TA.cell (j:=0) (i:=1) rfl rfl
   have b2:=TA.cell (j:=0) (i:=2) rfl rfl
   have b3:=TA.cell (j:=0) (i:=3) rfl rfl
   have b4:=TA.cell (j:=0) (i:=4) rfl rfl
   have d0:=TA.cell (j:=1) (i:=0) rfl rfl
   have d1:=TA.cell (j:=1) (i:=1) rfl rfl
   have d2:=TA.cell (j:=1) (i:=2) rfl rfl
   have d3:=TA.cell (j:=1) (i:=3) rfl rfl
   have d4:=TA.cell (j:=1) (i:=4) rfl rfl
   have q0:=TA.cell (j:=2) (i:=0) rfl rfl
   have q1:=TA.cell (j:=2) (i:=1) rfl rfl
   have q2:=TA.cell (j:=2) (i:=2) rfl rfl
   have q3:=TA.cell (j:=2) (i:=3) rfl rfl
   have q4:=TA.cell (j:=2) (i:=4) rfl rfl
   rw [Nat.add_zero] at b0 b1 b2 b3 b4
   have HV:Hid (∀ v,HeldOk hold x.sections.length h → v = (.iface 183 (.agg #[])) → ∃ s,stOf h = some s ∧ v = stV s):=fun v _ hv=>⟨_,HST.out,hv⟩
   have hfalse:¬ (y.gone = h.gone ∧ y.shown = h.shown ∧ y.timer = h.timer ∧ y.been = h.been) → B (HeldOk hold x.sections.length h) = false:=fun z=>B_false fun k=>z (HIFF.out.1 k).2
   have HFALSE:=hide hfalse
   clear hfalse hkb hkb2 hbA
   by_cases e1:y.gone = h.gone
   case neg=>
    have k1:(y.gone == h.gone) = false:=by simpa using e1
    have E1:=hide e1
    clear e1
    go_wp2
    exact bodyPost_ret (v:=.tuple #[(.iface 183 (.agg #[])),.bool false]) (by simp [results,Tryz.results137,go_sem]) rfl ⟨_,by rw [HFALSE.out fun z=>E1.out z.1],fun z=>HV.out _ z rfl,TA.below⟩
   have k1:(y.gone == h.gone) = true:=by simpa using e1
   have E1:=hide e1
   clear e1
   by_cases e2:y.shown = h.shown
   case neg=>
    have k2:(y.shown == h.shown) = false:=by simpa using e2
    have E2:=hide e2
    clear e2
    go_wp2
    exact bodyPost_ret (v:=.tuple #[(.iface 183 (.agg #[])),.bool false]) (by simp [results,Tryz.results137,go_sem]) rfl ⟨_,by rw [HFALSE.out fun z=>E2.out z.2.1],fun z=>HV.out _ z rfl,TA.below⟩
   have k2:(y.shown == h.shown) = true:=by simpa using e2
   have E2:=hide e2
   clear e2
   by_cases e3:y.timer = h.timer
   case neg=>
    have k3:(y.timer == h.timer) = false:=by simpa using e3
    have E3:=hide e3
    clear e3
    go_wp2
    exact bodyPost_ret (v:=.tuple #[(.iface 183 (.agg #[])),.bool false]) (by simp [results,Tryz.results137,go_sem]) rfl ⟨_,by rw [HFALSE.out fun z=>E3.out z.2.2.1],fun z=>HV.out _ z rfl,TA.below⟩
   have k3:(y.timer == h.timer) = true:=by simpa using e3
   have E3:=hide e3
   clear e3
   go_wp2_with fail
   refine HEQ.out.mono ?_
   clear b0 b1 b2 b3 b4 d0 d1 d2 d3 d4 q0 q1 q2 q3 q4
   rintro e w4 ⟨rfl,hb4⟩
   have T4:=TA.call hb4
   have hB:B (y.been = h.been) = B (HeldOk hold x.sections.length h):=B_congr ⟨fun z=>HIFF.out.2 ⟨HO.out,E1.out,E2.out,E3.out,z⟩,fun z=>(HIFF.out.1 z).2.2.2.2⟩
   rw [hB]
   clear hB hb4 k1 k2 k3
   go_wp2
   exact bodyPost_ret (v:=.tuple #[(.iface 183 (.agg #[])),.bool (B (HeldOk hold x.sections.length h))]) (by simp [results,Tryz.results137,go_sem]) rfl ⟨_,rfl,fun z=>HV.out _ z rfl,T4.below⟩
  | set sb=>
   simp only [stV]
   have m1:=Tryz.inv_set_ok (.agg #[.bool sb])
   have m2:=Tryz.inv_set_held (.agg #[.bool sb])
   go_wp2_with fail
   refine (setOk_any sb p0 p1 p2 p3 _ _ u1 u2 u3 u4 _).mono ?_
   clear b0 b1 b2 b3 b4 d0 d1 d2 d3 d4 q0 q1 q2 q3 q4
   rintro e w2 ⟨rfl,hb2⟩
   have T2:=T1.call hb2
   clear T1 hb2
   have b0:=T2.cell (j:=0) (i:=0) rfl rfl
   have b1:=T2.cell (j:=0) (i:=1) rfl rfl
   have b2:=T2.cell (j:=0) (i:=2) rfl rfl
   have b3:=T2.cell (j:=0) (i:=3) rfl rfl
   have b4:=T2.cell (j:=0) (i:=4) rfl rfl
   have d0:=T2.cell (j:=1) (i:=0) rfl rfl
   have d1:=T2.cell (j:=1) (i:=1) rfl rfl
   have d2:=T2.cell (j:=1) (i:=2) rfl rfl
   have d3:=T2.cell (j:=1) (i:=3) rfl rfl
   have d4:=T2.cell (j:=1) (i:=4) rfl rfl
   have q0:=T2.cell (j:=2) (i:=0) rfl rfl
   have q1:=T2.cell (j:=2) (i:=1) rfl rfl
   have q2:=T2.cell (j:=2) (i:=2) rfl rfl
   have q3:=T2.cell (j:=2) (i:=3) rfl rfl
   have q4:=T2.cell (j:=2) (i:=4) rfl rfl
   rw [Nat.add_zero] at b0 b1 b2 b3 b4
   have HO:Hid (stOk hold x.sections.length (.set sb)):=trivial
   go_wp2_with fail
   refine (setHeld_any sb _ u1 u2 u3 u4 x.sections _ (K3.out _ T2.below).1 hn1 HS.out.1).mono ?_
   clear b0 b1 b2 b3 b4 d0 d1 d2 d3 d4 q0 q1 q2 q3 q4
   rintro e w3 ⟨v',bq,rfl,hO,hq,hb3⟩
   have T3:=T2.call hb3
   clear T2 hb3
   obtain ⟨y,hy⟩:∃ y,y = heldOf x.sections.length (.set sb):=⟨_,rfl⟩
   have HIFF:=hide (held_iff (hold:=hold) HST.out Q0.out hn1 HS.out.1)
   have hyl:y.been.length = x.sections.length:=by rw [hy]; exact heldOf_len HST.out Q0.out
   rw [← hy] at hO HIFF ⊢
   have HYL:=hide hyl
   clear hy hyl
   have HOB:=hide hO
   have hkb:Bools (In w3) w3 v' y.been:=hO.read hO.lt
   obtain ⟨gq,Mq,capq,rfl,-,-,-⟩:=hO
   have TA:=T3.call (below_new w3 (.cells #[.int .i64 y.state,.int .i64 y.gone,.slice (some ⟨bq,0,none⟩) y.been.length capq,.bool y.shown,.int .i64 y.timer] 93))
   have hbA:=below_new w3 (.cells #[.int .i64 y.state,.int .i64 y.gone,.slice (some ⟨bq,0,none⟩) y.been.length capq,.bool y.shown,.int .i64 y.timer] 93)
   have hkb2:=hkb.keep (In.keep hbA).1 (In.keep hbA).2
   have HEQ:=hide (equalB_any _ _ y.been h.been _ hkb2 (K1.out _ TA.below) (by have:=HS.out.1; have:=HYL.out; omega) hbl)
   have b0:=TA.cell (j:=0) (i:=0) rfl rfl
   have b1:=TA.cell (j:=0) (i:=1) rfl rfl
   have b2:=TA.cell (j:=0) (i:=2) rfl rfl
   have b3:=TA.cell (j:=0) (i:=3) rfl rfl
   have b4:=TA.cell (j:=0) (i:=4) rfl rfl
   have d0:=TA.cell (j:=1) (i:=0) rfl rfl
   have d1:=TA.cell (j:=1) (i:=1) rfl rfl
   have d2:=TA.cell (j:=1) (i:=2) rfl rfl
   have d3:=TA.cell (j:=1) (i:=3) rfl rfl
   have d4:=TA.cell (j:=1) (i:=4) rfl rfl
   have q0:=TA.cell (j:=2) (i:=0) rfl rfl
   have q1:=TA.cell (j:=2) (i:=1) rfl rfl
   have q2:=TA.cell (j:=2) (i:=2) rfl rfl
   have q3:=TA.cell (j:=2) (i:=3) rfl rfl
   have q4:=TA.cell (j:=2) (i:=4) rfl rfl
   rw [Nat.add_zero] at b0 b1 b2 b3 b4
   have HV:Hid (∀ v,HeldOk hold x.sections.length h → v = (.iface 212 (.agg #[.bool sb])) → ∃ s,stOf h = some s ∧ v = stV s):=fun v _ hv=>⟨_,HST.out,hv⟩
   have hfalse:¬ (y.gone = h.gone ∧ y.shown = h.shown ∧ y.timer = h.timer ∧ y.been = h.been) → B (HeldOk hold x.sections.length h) = false:=fun z=>B_false fun k=>z (HIFF.out.1 k).2
   have HFALSE:=hide hfalse
   clear hfalse hkb hkb2 hbA
   by_cases e1:y.gone = h.gone
   case neg=>
    have k1:(y.gone == h.gone) = false:=by simpa using e1
    have E1:=hide e1
    clear e1
    go_wp2
    exact bodyPost_ret (v:=.tuple #[(.iface 212 (.agg #[.bool sb])),.bool false]) (by simp [results,Tryz.results137,go_sem]) rfl ⟨_,by rw [HFALSE.out fun z=>E1.out z.1],fun z=>HV.out _ z rfl,TA.below⟩
   have k1:(y.gone == h.gone) = true:=by simpa using e1
   have E1:=hide e1
   clear e1
   by_cases e2:y.shown = h.shown
   case neg=>
    have k2:(y.shown == h.shown) = false:=by simpa using e2
    have E2:=hide e2
    clear e2
    go_wp2
    exact bodyPost_ret (v:=.tuple #[(.iface 212 (.agg #[.bool sb])),.bool false]) (by simp [results,Tryz.results137,go_sem]) rfl ⟨_,by rw [HFALSE.out fun z=>E2.out z.2.1],fun z=>HV.out _ z rfl,TA.below⟩
   have k2:(y.shown == h.shown) = true:=by simpa using e2
   have E2:=hide e2
   clear e2
   by_cases e3:y.timer = h.timer
   case neg=>
    have k3:(y.timer == h.timer) = false:=by simpa using e3
    have E3:=hide e3
    clear e3
    go_wp2
    exact bodyPost_ret (v:=.tuple #[(.iface 212 (.agg #[.bool sb])),.bool false]) (by simp [results,Tryz.results137,go_sem]) rfl ⟨_,by rw [HFALSE.out fun z=>E3.out z.2.2.1],fun z=>HV.out _ z rfl,TA.below⟩
   have k3:(y.timer == h.timer) = true:=by simpa using e3
   have E3:=hide e3
   clear e3
   go_wp2_with fail
   refine HEQ.out.mono ?_
   clear b0 b1 b2 b3 b4 d0 d1 d2 d3 d4 q0 q1 q2 q3 q4
   rintro e w4 ⟨rfl,hb4⟩
   have T4:=TA.call hb4
   have hB:B (y.been = h.been) = B (HeldOk hold x.sections.length h):=B_congr ⟨fun z=>HIFF.out.2 ⟨HO.out,E1.out,E2.out,E3.out,z⟩,fun z=>(HIFF.out.1 z).2.2.2.2⟩
   rw [hB]
   clear hB hb4 k1 k2 k3
   go_wp2
   exact bodyPost_ret (v:=.tuple #[(.iface 212 (.agg #[.bool sb])),.bool (B (HeldOk hold x.sections.length h))]) (by simp [results,Tryz.results137,go_sem]) rfl ⟨_,rfl,fun z=>HV.out _ z rfl,T4.below⟩
  | clear=>
   simp only [stV]
   have m1:=Tryz.inv_clear_ok (.agg #[])
   have m2:=Tryz.inv_clear_held (.agg #[])
   go_wp2_with fail
   refine (clearOk_any p0 p1 p2 p3 _ _ u1 u2 u3 u4 _).mono ?_
   clear b0 b1 b2 b3 b4 d0 d1 d2 d3 d4 q0 q1 q2 q3 q4
   rintro e w2 ⟨rfl,hb2⟩
   have T2:=T1.call hb2
   clear T1 hb2
   have b0:=T2.cell (j:=0) (i:=0) rfl rfl
   have b1:=T2.cell (j:=0) (i:=1) rfl rfl
   have b2:=T2.cell (j:=0) (i:=2) rfl rfl
   have b3:=T2.cell (j:=0) (i:=3) rfl rfl
   have b4:=T2.cell (j:=0) (i:=4) rfl rfl
   have d0:=T2.cell (j:=1) (i:=0) rfl rfl
   have d1:=T2.cell (j:=1) (i:=1) rfl rfl
   have d2:=T2.cell (j:=1) (i:=2) rfl rfl
   have d3:=T2.cell (j:=1) (i:=3) rfl rfl
   have d4:=T2.cell (j:=1) (i:=4) rfl rfl
   have q0:=T2.cell (j:=2) (i:=0) rfl rfl
   have q1:=T2.cell (j:=2) (i:=1) rfl rfl
   have q2:=T2.cell (j:=2) (i:=2) rfl rfl
   have q3:=T2.cell (j:=2) (i:=3) rfl rfl
   have q4:=T2.cell (j:=2) (i:=4) rfl rfl
   rw [Nat.add_zero] at b0 b1 b2 b3 b4
   have HO:Hid (stOk hold x.sections.length .clear):=trivial
   go_wp2_with fail
   refine (clearHeld_any _ u1 u2 u3 u4 x.sections _ (K3.out _ T2.below).1 hn1 HS.out.1).mono ?_
   clear b0 b1 b2 b3 b4 d0 d1 d2 d3 d4 q0 q1 q2 q3 q4
   rintro e w3 ⟨v',bq,rfl,hO,hq,hb3⟩
   have T3:=T2.call hb3
   clear T2 hb3
   obtain ⟨y,hy⟩:∃ y,y = heldOf x.sections.length .clear:=⟨_,rfl⟩
   have HIFF:=hide (held_iff (hold:=hold) HST.out Q0.out hn1 HS.out.1)
   have hyl:y.been.length = x.sections.length:=by rw [hy]; exact heldOf_len HST.out Q0.out
   rw [← hy] at hO HIFF ⊢
   have HYL:=hide hyl
   clear hy hyl
   have HOB:=hide hO
   have hkb:Bools (In w3) w3 v' y.been:=hO.read hO.lt
   obtain ⟨gq,Mq,capq,rfl,-,-,-⟩:=hO
   have TA:=T3.call (below_new w3 (.cells #[.int .i64 y.state,.int .i64 y.gone,.slice (some ⟨bq,0,none⟩) y.been.length capq,.bool y.shown,.int .i64 y.timer] 93))
   have hbA:=below_new w3 (.cells #[.int .i64 y.state,.int .i64 y.gone,.slice (some ⟨bq,0,none⟩) y.been.length capq,.bool y.shown,.int .i64 y.timer] 93)
   have hkb2:=hkb.keep (In.keep hbA).1 (In.keep hbA).2
   have HEQ:=hide (equalB_any _ _ y.been h.been _ hkb2 (K1.out _ TA.below) (by have:=HS.out.1; have:=HYL.out; omega) hbl)
   have b0:=TA.cell (j:=0) (i:=0) rfl rfl
   have b1:=TA.cell (j:=0) (i:=1) rfl rfl
   have b2:=TA.cell (j:=0) (i:=2) rfl rfl
   have b3:=TA.cell (j:=0) (i:=3) rfl rfl
   have b4:=TA.cell (j:=0) (i:=4) rfl rfl
   have d0:=TA.cell (j:=1) (i:=0) rfl rfl
   have d1:=TA.cell (j:=1) (i:=1) rfl rfl
   have d2:=TA.cell (j:=1) (i:=2) rfl rfl
   have d3:=TA.cell (j:=1) (i:=3) rfl rfl
   have d4:=TA.cell (j:=1) (i:=4) rfl rfl
   have q0:=TA.cell (j:=2) (i:=0) rfl rfl
   have q1:=TA.cell (j:=2) (i:=1) rfl rfl
   have q2:=TA.cell (j:=2) (i:=2) rfl rfl
   have q3:=TA.cell (j:=2) (i:=3) rfl rfl
   have q4:=TA.cell (j:=2) (i:=4) rfl rfl
   rw [Nat.add_zero] at b0 b1 b2 b3 b4
   have HV:Hid (∀ v,HeldOk hold x.sections.length h → v = (.iface 214 (.agg #[])) → ∃ s,stOf h = some s ∧ v = stV s):=fun v _ hv=>⟨_,HST.out,hv⟩
   have hfalse:¬ (y.gone = h.gone ∧ y.shown = h.shown ∧ y.timer = h.timer ∧ y.been = h.been) → B (HeldOk hold x.sections.length h) = false:=fun z=>B_false fun k=>z (HIFF.out.1 k).2
   have HFALSE:=hide hfalse
   clear hfalse hkb hkb2 hbA
   by_cases e1:y.gone = h.gone
   case neg=>
    have k1:(y.gone == h.gone) = false:=by simpa using e1
    have E1:=hide e1
    clear e1
    go_wp2
    exact bodyPost_ret (v:=.tuple #[(.iface 214 (.agg #[])),.bool false]) (by simp [results,Tryz.results137,go_sem]) rfl ⟨_,by rw [HFALSE.out fun z=>E1.out z.1],fun z=>HV.out _ z rfl,TA.below⟩
   have k1:(y.gone == h.gone) = true:=by simpa using e1
   have E1:=hide e1
   clear e1
   by_cases e2:y.shown = h.shown
   case neg=>
    have k2:(y.shown == h.shown) = false:=by simpa using e2
    have E2:=hide e2
    clear e2
    go_wp2
    exact bodyPost_ret (v:=.tuple #[(.iface 214 (.agg #[])),.bool false]) (by simp [results,Tryz.results137,go_sem]) rfl ⟨_,by rw [HFALSE.out fun z=>E2.out z.2.1],fun z=>HV.out _ z rfl,TA.below⟩
   have k2:(y.shown == h.shown) = true:=by simpa using e2
   have E2:=hide e2
   clear e2
   by_cases e3:y.timer = h.timer
   case neg=>
    have k3:(y.timer == h.timer) = false:=by simpa using e3
    have E3:=hide e3
    clear e3
    go_wp2
    exact bodyPost_ret (v:=.tuple #[(.iface 214 (.agg #[])),.bool false]) (by simp [results,Tryz.results137,go_sem]) rfl ⟨_,by rw [HFALSE.out fun z=>E3.out z.2.2.1],fun z=>HV.out _ z rfl,TA.below⟩
   have k3:(y.timer == h.timer) = true:=by simpa using e3
   have E3:=hide e3
   clear e3
   go_wp2_with fail
   refine HEQ.out.mono ?_
   clear b0 b1 b2 b3 b4 d0 d1 d2 d3 d4 q0 q1 q2 q3 q4
   rintro e w4 ⟨rfl,hb4⟩
   have T4:=TA.call hb4
   have hB:B (y.been = h.been) = B (HeldOk hold x.sections.length h):=B_congr ⟨fun z=>HIFF.out.2 ⟨HO.out,E1.out,E2.out,E3.out,z⟩,fun z=>(HIFF.out.1 z).2.2.2.2⟩
   rw [hB]
   clear hB hb4 k1 k2 k3
   go_wp2
   exact bodyPost_ret (v:=.tuple #[(.iface 214 (.agg #[])),.bool (B (HeldOk hold x.sections.length h))]) (by simp [results,Tryz.results137,go_sem]) rfl ⟨_,rfl,fun z=>HV.out _ z rfl,T4.below⟩
  | taking t=>
   simp only [stV]
   have m1:=Tryz.inv_taking_ok (.agg #[.int .i64 t])
   have m2:=Tryz.inv_taking_held (.agg #[.int .i64 t])
   go_wp2_with fail
   refine (takingOk_any t hold p0 p1 p2 p3 _ u1 u2 u3 u4 _).mono ?_
   clear b0 b1 b2 b3 b4 d0 d1 d2 d3 d4 q0 q1 q2 q3 q4
   rintro e w2 ⟨rfl,hb2⟩
   have T2:=T1.call hb2
   clear T1 hb2
   have b0:=T2.cell (j:=0) (i:=0) rfl rfl
   have b1:=T2.cell (j:=0) (i:=1) rfl rfl
   have b2:=T2.cell (j:=0) (i:=2) rfl rfl
   have b3:=T2.cell (j:=0) (i:=3) rfl rfl
   have b4:=T2.cell (j:=0) (i:=4) rfl rfl
   have d0:=T2.cell (j:=1) (i:=0) rfl rfl
   have d1:=T2.cell (j:=1) (i:=1) rfl rfl
   have d2:=T2.cell (j:=1) (i:=2) rfl rfl
   have d3:=T2.cell (j:=1) (i:=3) rfl rfl
   have d4:=T2.cell (j:=1) (i:=4) rfl rfl
   have q0:=T2.cell (j:=2) (i:=0) rfl rfl
   have q1:=T2.cell (j:=2) (i:=1) rfl rfl
   have q2:=T2.cell (j:=2) (i:=2) rfl rfl
   have q3:=T2.cell (j:=2) (i:=3) rfl rfl
   have q4:=T2.cell (j:=2) (i:=4) rfl rfl
   rw [Nat.add_zero] at b0 b1 b2 b3 b4
   by_cases ho:InR t 1 hold
   case neg=>
    rw [B_false ho]
    have HO:=hide ho
    clear ho
    go_wp2
    have hno:¬ HeldOk hold x.sections.length h:=fun z=>HO.out ((held_iff HST.out Q0.out hn1 HS.out.1).1 z).1
    exact bodyPost_ret (v:=.tuple #[.nilIface,.bool false]) (by simp [results,Tryz.results137,go_sem]) rfl ⟨_,by rw [B_false hno],fun z=>absurd z hno,T2.below⟩
   rw [B_true ho]
   have HO:Hid (stOk hold x.sections.length (.taking t)):=ho
   clear ho
   go_wp2_with fail
   refine (takingHeld_any t _ u1 u2 u3 u4 x.sections _ (K3.out _ T2.below).1 hn1 HS.out.1).mono ?_
   clear b0 b1 b2 b3 b4 d0 d1 d2 d3 d4 q0 q1 q2 q3 q4
   rintro e w3 ⟨v',bq,rfl,hO,hq,hb3⟩
   have T3:=T2.call hb3
   clear T2 hb3
   obtain ⟨y,hy⟩:∃ y,y = heldOf x.sections.length (.taking t):=⟨_,rfl⟩
   have HIFF:=hide (held_iff (hold:=hold) HST.out Q0.out hn1 HS.out.1)
   have hyl:y.been.length = x.sections.length:=by rw [hy]; exact heldOf_len HST.out Q0.out
   rw [← hy] at hO HIFF ⊢
   have HYL:=hide hyl
   clear hy hyl
   have HOB:=hide hO
   have hkb:Bools (In w3) w3 v' y.been:=hO.read hO.lt
   obtain ⟨gq,Mq,capq,rfl,-,-,-⟩:=hO
   have TA:=T3.call (below_new w3 (.cells #[.int .i64 y.state,.int .i64 y.gone,.slice (some ⟨bq,0,none⟩) y.been.length capq,.bool y.shown,.int .i64 y.timer] 93))
   have hbA:=below_new w3 (.cells #[.int .i64 y.state,.int .i64 y.gone,.slice (some ⟨bq,0,none⟩) y.been.length capq,.bool y.shown,.int .i64 y.timer] 93)
   have hkb2:=hkb.keep (In.keep hbA).1 (In.keep hbA).2
   have HEQ:=hide (equalB_any _ _ y.been h.been _ hkb2 (K1.out _ TA.below) (by have:=HS.out.1; have:=HYL.out; omega) hbl)
   have b0:=TA.cell (j:=0) (i:=0) rfl rfl
   have b1:=TA.cell (j:=0) (i:=1) rfl rfl
   have b2:=TA.cell (j:=0) (i:=2) rfl rfl
   have b3:=TA.cell (j:=0) (i:=3) rfl rfl
   have b4:=TA.cell (j:=0) (i:=4) rfl rfl
   have d0:=TA.cell (j:=1) (i:=0) rfl rfl
   have d1:=TA.cell (j:=1) (i:=1) rfl rfl
   have d2:=TA.cell (j:=1) (i:=2) rfl rfl
   have d3:=TA.cell (j:=1) (i:=3) rfl rfl
   have d4:=TA.cell (j:=1) (i:=4) rfl rfl
   have q0:=TA.cell (j:=2) (i:=0) rfl rfl
   have q1:=TA.cell (j:=2) (i:=1) rfl rfl
   have q2:=TA.cell (j:=2) (i:=2) rfl rfl
   have q3:=TA.cell (j:=2) (i:=3) rfl rfl
   have q4:=TA.cell (j:=2) (i:=4) rfl rfl
   rw [Nat.add_zero] at b0 b1 b2 b3 b4
   have HV:Hid (∀ v,HeldOk hold x.sections.length h → v = (.iface 258 (.agg #[.int .i64 t])) → ∃ s,stOf h = some s ∧ v = stV s):=fun v _ hv=>⟨_,HST.out,hv⟩
   have hfalse:¬ (y.gone = h.gone ∧ y.shown = h.shown ∧ y.timer = h.timer ∧ y.been = h.been) → B (HeldOk hold x.sections.length h) = false:=fun z=>B_false fun k=>z (HIFF.out.1 k).2
   have HFALSE:=hide hfalse
   clear hfalse hkb hkb2 hbA
   by_cases e1:y.gone = h.gone
   case neg=>
    have k1:(y.gone == h.gone) = false:=by simpa using e1
    have E1:=hide e1
    clear e1
    go_wp2
    exact bodyPost_ret (v:=.tuple #[(.iface 258 (.agg #[.int .i64 t])),.bool false]) (by simp [results,Tryz.results137,go_sem]) rfl ⟨_,by rw [HFALSE.out fun z=>E1.out z.1],fun z=>HV.out _ z rfl,TA.below⟩
   have k1:(y.gone == h.gone) = true:=by simpa using e1
   have E1:=hide e1
   clear e1
   by_cases e2:y.shown = h.shown
   case neg=>
    have k2:(y.shown == h.shown) = false:=by simpa using e2
    have E2:=hide e2
    clear e2
    go_wp2
    exact bodyPost_ret (v:=.tuple #[(.iface 258 (.agg #[.int .i64 t])),.bool false]) (by simp [results,Tryz.results137,go_sem]) rfl ⟨_,by rw [HFALSE.out fun z=>E2.out z.2.1],fun z=>HV.out _ z rfl,TA.below⟩
   have k2:(y.shown == h.shown) = true:=by simpa using e2
   have E2:=hide e2
   clear e2
   by_cases e3:y.timer = h.timer
   case neg=>
    have k3:(y.timer == h.timer) = false:=by simpa using e3
    have E3:=hide e3
    clear e3
    go_wp2
    exact bodyPost_ret (v:=.tuple #[(.iface 258 (.agg #[.int .i64 t])),.bool false]) (by simp [results,Tryz.results137,go_sem]) rfl ⟨_,by rw [HFALSE.out fun z=>E3.out z.2.2.1],fun z=>HV.out _ z rfl,TA.below⟩
   have k3:(y.timer == h.timer) = true:=by simpa using e3
   have E3:=hide e3
   clear e3
   go_wp2_with fail
   refine HEQ.out.mono ?_
   clear b0 b1 b2 b3 b4 d0 d1 d2 d3 d4 q0 q1 q2 q3 q4
   rintro e w4 ⟨rfl,hb4⟩
   have T4:=TA.call hb4
   have hB:B (y.been = h.been) = B (HeldOk hold x.sections.length h):=B_congr ⟨fun z=>HIFF.out.2 ⟨HO.out,E1.out,E2.out,E3.out,z⟩,fun z=>(HIFF.out.1 z).2.2.2.2⟩
   rw [hB]
   clear hB hb4 k1 k2 k3
   go_wp2
   exact bodyPost_ret (v:=.tuple #[(.iface 258 (.agg #[.int .i64 t])),.bool (B (HeldOk hold x.sections.length h))]) (by simp [results,Tryz.results137,go_sem]) rfl ⟨_,rfl,fun z=>HV.out _ z rfl,T4.below⟩
  | used g l b=>
   simp only [stV]
   have m1:=Tryz.inv_used_ok (.agg (usedC g l b))
   have m2:=Tryz.inv_used_held (.agg (usedC g l b))
   have hl30:l.length = 30:=stOf_fit HST.out (by have:=Q0.out; have:=HS.out.1; omega)
   go_wp2_with fail
   refine (usedOk_any g l b hold p0 p1 p2 p3 _ _ u1 u2 u3 u4 x.sections _ (K3.out _ T1.below).1 HS.out.1 hl30).mono ?_
   clear b0 b1 b2 b3 b4 d0 d1 d2 d3 d4 q0 q1 q2 q3 q4
   rintro e w2 ⟨rfl,hb2⟩
   have T2:=T1.call hb2
   clear T1 hb2
   have b0:=T2.cell (j:=0) (i:=0) rfl rfl
   have b1:=T2.cell (j:=0) (i:=1) rfl rfl
   have b2:=T2.cell (j:=0) (i:=2) rfl rfl
   have b3:=T2.cell (j:=0) (i:=3) rfl rfl
   have b4:=T2.cell (j:=0) (i:=4) rfl rfl
   have d0:=T2.cell (j:=1) (i:=0) rfl rfl
   have d1:=T2.cell (j:=1) (i:=1) rfl rfl
   have d2:=T2.cell (j:=1) (i:=2) rfl rfl
   have d3:=T2.cell (j:=1) (i:=3) rfl rfl
   have d4:=T2.cell (j:=1) (i:=4) rfl rfl
   have q0:=T2.cell (j:=2) (i:=0) rfl rfl
   have q1:=T2.cell (j:=2) (i:=1) rfl rfl
   have q2:=T2.cell (j:=2) (i:=2) rfl rfl
   have q3:=T2.cell (j:=2) (i:=3) rfl rfl
   have q4:=T2.cell (j:=2) (i:=4) rfl rfl
   rw [Nat.add_zero] at b0 b1 b2 b3 b4
   by_cases ho:stOk hold x.sections.length (.used g l b)
   case neg=>
    rw [B_false ho]
    have HO:=hide ho
    clear ho
    go_wp2
    have hno:¬ HeldOk hold x.sections.length h:=fun z=>HO.out ((held_iff HST.out Q0.out hn1 HS.out.1).1 z).1
    exact bodyPost_ret (v:=.tuple #[.nilIface,.bool false]) (by simp [results,Tryz.results137,go_sem]) rfl ⟨_,by rw [B_false hno],fun z=>absurd z hno,T2.below⟩
   rw [B_true ho]
   have HO:Hid (stOk hold x.sections.length (.used g l b)):=ho
   clear ho
   go_wp2_with fail
   refine (usedHeld_any g l b _ u1 u2 u3 u4 x.sections _ (K3.out _ T2.below).1 hn1 HS.out.1 hl30).mono ?_
   clear b0 b1 b2 b3 b4 d0 d1 d2 d3 d4 q0 q1 q2 q3 q4
   rintro e w3 ⟨v',bq,rfl,hO,hq,hb3⟩
   have T3:=T2.call hb3
   clear T2 hb3
   obtain ⟨y,hy⟩:∃ y,y = heldOf x.sections.length (.used g l b):=⟨_,rfl⟩
   have HIFF:=hide (held_iff (hold:=hold) HST.out Q0.out hn1 HS.out.1)
   have hyl:y.been.length = x.sections.length:=by rw [hy]; exact heldOf_len HST.out Q0.out
   rw [← hy] at hO HIFF ⊢
   have HYL:=hide hyl
   clear hy hyl
   have HOB:=hide hO
   have hkb:Bools (In w3) w3 v' y.been:=hO.read hO.lt
   obtain ⟨gq,Mq,capq,rfl,-,-,-⟩:=hO
   have TA:=T3.call (below_new w3 (.cells #[.int .i64 y.state,.int .i64 y.gone,.slice (some ⟨bq,0,none⟩) y.been.length capq,.bool y.shown,.int .i64 y.timer] 93))
   have hbA:=below_new w3 (.cells #[.int .i64 y.state,.int .i64 y.gone,.slice (some ⟨bq,0,none⟩) y.been.length capq,.bool y.shown,.int .i64 y.timer] 93)
   have hkb2:=hkb.keep (In.keep hbA).1 (In.keep hbA).2
   have HEQ:=hide (equalB_any _ _ y.been h.been _ hkb2 (K1.out _ TA.below) (by have:=HS.out.1; have:=HYL.out; omega) hbl)
   have b0:=TA.cell (j:=0) (i:=0) rfl rfl
   have b1:=TA.cell (j:=0) (i:=1) rfl rfl
   have b2:=TA.cell (j:=0) (i:=2) rfl rfl
   have b3:=TA.cell (j:=0) (i:=3) rfl rfl
   have b4:=TA.cell (j:=0) (i:=4) rfl rfl
   have d0:=TA.cell (j:=1) (i:=0) rfl rfl
   have d1:=TA.cell (j:=1) (i:=1) rfl rfl
   have d2:=TA.cell (j:=1) (i:=2) rfl rfl
   have d3:=TA.cell (j:=1) (i:=3) rfl rfl
   have d4:=TA.cell (j:=1) (i:=4) rfl rfl
   have q0:=TA.cell (j:=2) (i:=0) rfl rfl
   have q1:=TA.cell (j:=2) (i:=1) rfl rfl
   have q2:=TA.cell (j:=2) (i:=2) rfl rfl
   have q3:=TA.cell (j:=2) (i:=3) rfl rfl
   have q4:=TA.cell (j:=2) (i:=4) rfl rfl
   rw [Nat.add_zero] at b0 b1 b2 b3 b4
   have HV:Hid (∀ v,HeldOk hold x.sections.length h → v = (.iface 217 (.agg (usedC g l b))) → ∃ s,stOf h = some s ∧ v = stV s):=fun v _ hv=>⟨_,HST.out,hv⟩
   have hfalse:¬ (y.gone = h.gone ∧ y.shown = h.shown ∧ y.timer = h.timer ∧ y.been = h.been) → B (HeldOk hold x.sections.length h) = false:=fun z=>B_false fun k=>z (HIFF.out.1 k).2
   have HFALSE:=hide hfalse
   clear hfalse hkb hkb2 hbA
   by_cases e1:y.gone = h.gone
   case neg=>
    have k1:(y.gone == h.gone) = false:=by simpa using e1
    have E1:=hide e1
    clear e1
    go_wp2
    exact bodyPost_ret (v:=.tuple #[(.iface 217 (.agg (usedC g l b))),.bool false]) (by simp [results,Tryz.results137,go_sem]) rfl ⟨_,by rw [HFALSE.out fun z=>E1.out z.1],fun z=>HV.out _ z rfl,TA.below⟩
   have k1:(y.gone == h.gone) = true:=by simpa using e1
   have E1:=hide e1
   clear e1
   by_cases e2:y.shown = h.shown
   case neg=>
    have k2:(y.shown == h.shown) = false:=by simpa using e2
    have E2:=hide e2
    clear e2
    go_wp2
    exact bodyPost_ret (v:=.tuple #[(.iface 217 (.agg (usedC g l b))),.bool false]) (by simp [results,Tryz.results137,go_sem]) rfl ⟨_,by rw [HFALSE.out fun z=>E2.out z.2.1],fun z=>HV.out _ z rfl,TA.below⟩
   have k2:(y.shown == h.shown) = true:=by simpa using e2
   have E2:=hide e2
   clear e2
   by_cases e3:y.timer = h.timer
   case neg=>
    have k3:(y.timer == h.timer) = false:=by simpa using e3
    have E3:=hide e3
    clear e3
    go_wp2
    exact bodyPost_ret (v:=.tuple #[(.iface 217 (.agg (usedC g l b))),.bool false]) (by simp [results,Tryz.results137,go_sem]) rfl ⟨_,by rw [HFALSE.out fun z=>E3.out z.2.2.1],fun z=>HV.out _ z rfl,TA.below⟩
   have k3:(y.timer == h.timer) = true:=by simpa using e3
   have E3:=hide e3
   clear e3
   go_wp2_with fail
   refine HEQ.out.mono ?_
   clear b0 b1 b2 b3 b4 d0 d1 d2 d3 d4 q0 q1 q2 q3 q4
   rintro e w4 ⟨rfl,hb4⟩
   have T4:=TA.call hb4
   have hB:B (y.been = h.been) = B (HeldOk hold x.sections.length h):=B_congr ⟨fun z=>HIFF.out.2 ⟨HO.out,E1.out,E2.out,E3.out,z⟩,fun z=>(HIFF.out.1 z).2.2.2.2⟩
   rw [hB]
   clear hB hb4 k1 k2 k3
   go_wp2
   exact bodyPost_ret (v:=.tuple #[(.iface 217 (.agg (usedC g l b))),.bool (B (HeldOk hold x.sections.length h))]) (by simp [results,Tryz.results137,go_sem]) rfl ⟨_,rfl,fun z=>HV.out _ z rfl,T4.below⟩
end Go.Proofs.YtdhinkgjiapigabGreatDoor
