import Derived.Test.YtdhinkgjiapigaaGreatDoorSpW
import Derived.Test.YtdhinkgjiapigaaGreatDoorLast3
import Derived.Deep.DeepCutAuto
namespace Go.Proofs.YtdhinkgjiapigaaGreatDoor
open Go.RowKit Go.Deep
open Classical
section
variable {P : Program} {Q : Exit → Act → World → Prop} {S : World → Prop} {l : List Oper}
theorem tkI {m:Nat} {oi:Oper} {v:Value} {fuel:Nat} {listed:Array Bool} {a:Act} {w:World} (hi:l[m - fuel]? = some oi) (hc:tkOk l listed m (m - fuel) = true) (hQ:∀ c a w,Q (.panic c) (a.put oi.dst v) w → Q (.panic c) a w) (hg:oi.guard = none) (hy:∀ w,S w → (execOp a.eval oi).run P w = .ok (.value v) w) (hS:S w)
  (h:zbq P .any l.toArray Q S m fuel (listed.setIfInBounds (m - fuel) true) (a.put oi.dst v) w):zbq P .any l.toArray Q S m (fuel + 1) listed a w:=tkL hi hc hQ hg hy hS h
end
def zxv (w:World) (cb lo K Kb:Nat) (e:Ending) (w':World):Prop:=∃ (u1 u2 u3:Value) (ms:Nat) (hd:Int),e = .returned (.agg #[.int .i64 (ms:Int),u1,u2,u3,.int .i64 hd]) ∧ ms ≤ 61 ∧ SpS w' lo (Kb + 1) u1 u2 u3 ∧ Cur w' cb (K + 20) ∧ But (fun c=>c < lo ∧ c ≠ cb) w w' ∧ ∀ (b:Nat) f,b < w.heap.size → w.rowIs b 27 5 f → w'.rowIs b 27 5 f
theorem zwu {w:World} {cb lo K Kb L Lb ms:Nat} {hd:Int} {W:World} {v1 v2 v3:Value} (h:SpB w cb lo L Lb (ms:Int) hd W v1 v2 v3) (hL:L ≤ K + 20) (hb:Lb ≤ Kb + 1) (hm:ms ≤ 61) :
  zxv w cb lo K Kb (.returned (.agg #[.int .i64 (ms:Int),v1,v2,v3,.int .i64 hd])) (((((W.setCell ⟨w.heap.size + 1,0,none⟩ (.int .i64 (ms:Int))).setCell ⟨w.heap.size + 1,1,none⟩ v1).setCell ⟨w.heap.size + 1,2,none⟩ v2).setCell ⟨w.heap.size + 1,3,none⟩ v3).setCell ⟨w.heap.size + 1,4,none⟩ (.int .i64 hd)):=by
 have hk:∀ o:Nat,¬ ((fun c=>c ≠ w.heap.size + 1) (⟨w.heap.size + 1,o,none⟩:Addr).block):=fun o z=>z rfl;have hB:=(((((But.refl (fun c=>c ≠ w.heap.size + 1) W).setCell (hk 0) (.int .i64 (ms:Int))).setCell (hk 1) v1).setCell (hk 2) v2).setCell (hk 3) v3).setCell (hk 4) (.int .i64 hd);obtain ⟨g,hg⟩:=h.res;have h1:=h.hcb;have h2:=h.hlo;exact ⟨v1,v2,v3,ms,hd,rfl,hm,(h.spl.typ (.of_but hg zwz hB)).mono hb,(h.cur.but hB fun b hb=>by omega).mono hL,h.but.trans (hB.mono fun c _ hc=>by omega),fun b f hl hk=>hB.row (h.keep b f hl hk) (by omega)⟩
theorem zxr {W:World} {lo:Nat} {v:Value} {l:List (WayQ × WayD)} (h:WaysO W lo v l) {i:Nat} {x:WayQ × WayD} (hx:l[i]? = some x):∃ g cap,v = .slice (some ⟨g,0,none⟩) l.length cap ∧ v.ownBlock = some g ∧ lo ≤ g ∧ (∃ cur,W.heap[g]? = some (.cells cur 51 (0,0))) ∧ (∀ j:Nat,W.frozen? ⟨g,j,none⟩ = false) ∧ W.cell? ⟨g,i * 5,none⟩ = some x.1.v0 ∧ W.cell? ⟨g,i * 5 + 1,none⟩ = some x.1.v1 ∧ W.cell? ⟨g,i * 5 + 2,none⟩ = some x.1.v2 ∧ W.cell? ⟨g,i * 5 + 3,none⟩ = some x.1.v3 ∧ W.cell? ⟨g,i * 5 + 4,none⟩ = some x.1.v4:=by
 have hl:=(List.getElem?_eq_some_iff.1 hx).1;obtain ⟨g,cap,e,hlo,hlt,hc⟩:=zc6 h.own (by omega)
 have ho:v.ownBlock = some g:=by rw [e]; rfl
 obtain ⟨cur,hg⟩:=zwy h.own ho;obtain ⟨g0,g1,g2,g3,g4⟩:=zfq l i x hx;exact ⟨g,cap,e,ho,hlo,⟨cur,hg⟩,fun j=>by simp [World.frozen?,hg],hc _ _ g0,hc _ _ g1,hc _ _ g2,hc _ _ g3,hc _ _ g4⟩
theorem zwv {Q:Nat → Prop} {W W':World} (h:But Q W W') {b o:Nat} {v:Value} (hq:Q b) (hc:W.cell? ⟨b,o,none⟩ = some v):W'.cell? ⟨b,o,none⟩ = some v:=(World.cell?_of_block (a:=⟨b,o,none⟩) (h.block b (World.block_lt_of_cell? W ⟨b,o,none⟩ hc) hq)).trans hc
theorem ckc {W W':World} {b o:Nat} {v:Value} (h:W.cell? ⟨b,o,none⟩ = some v) (hb:Below W.heap.size W W'):W'.cell? ⟨b,o,none⟩ = some v:=zwv (Q:=fun _=>True) (But.of_calls hb) trivial h
theorem Typ.way {W W':World} (hT:Typ W W') {g o:Nat} {cur:Array Value} (hcur:W.heap[g]? = some (.cells cur 51 (0,0))) {v:Value} (hc:W.cell? ⟨g,o,none⟩ = some v):W'.cell? ⟨g,o,none⟩ = some v:=by
 have hv:cur[o]? = some v:=by simpa [World.cell?,hcur] using hc
 obtain ⟨cur',hg',-,he⟩:=hT.row g cur _ (by unfold LsT; simp) hcur;obtain ⟨u',hu',rfl | ⟨z,-⟩ | ⟨z,-⟩⟩:=he o v hv
 ·simp [World.cell?,hg',hu']
 ·exact absurd z (by decide)
 ·exact absurd z (by decide)
theorem SpB.at {w:World} {cb lo K Kb:Nat} {ns hold:Int} {W:World} {v1 v3:Value} {gy n2 c2 i:Nat} (h:SpB w cb lo K Kb ns hold W v1 (.slice (some ⟨gy,0,none⟩) n2 c2) v3) (hi:i < n2) :
  ∃ l q,WaysO W lo (.slice (some ⟨gy,0,none⟩) n2 c2) l ∧ l.length ≤ 100 ∧ (∀ x ∈ l,x.2.Small Kb) ∧ l[i]? = some q ∧ WayO W lo q.1 q.2 ∧ q.2.Small Kb ∧ (∃ cur,W.heap[gy]? = some (.cells cur 51 (0,0))) ∧ lo ≤ gy ∧ (∀ j:Nat,W.frozen? ⟨gy,j,none⟩ = false) ∧ W.cell? ⟨gy,i * 5,none⟩ = some q.1.v0 ∧ W.cell? ⟨gy,i * 5 + 1,none⟩ = some q.1.v1 ∧ W.cell? ⟨gy,i * 5 + 2,none⟩ = some q.1.v2 ∧ W.cell? ⟨gy,i * 5 + 3,none⟩ = some q.1.v3 ∧ W.cell? ⟨gy,i * 5 + 4,none⟩ = some q.1.v4:=by
 obtain ⟨l,o,hl10,hls⟩:=h.spl.ways
 have hln:l.length = n2:=by obtain ⟨a,c,e⟩:=zag o.own; cases e; rfl
 obtain ⟨q,hq⟩:=zb4 l (show i < l.length by omega);obtain ⟨g,cap,eg,hob,hlg,hcur,hfz,z0,z1,z2,z3,z4⟩:=zxr o hq
 cases hob
 exact ⟨l,q,o,hl10,hls,hq,o.ways q (List.mem_of_getElem? hq),hls q (List.mem_of_getElem? hq),hcur,hlg,hfz,z0,z1,z2,z3,z4⟩
theorem SpB.grown {w:World} {cb lo K Kb:Nat} {ns hold:Int} {W W':World} {v1 v2 v3:Value} (h:SpB w cb lo K Kb ns hold W v1 v2 v3) {e size:Nat} {v:Value} {n:Nat} {xs:List Value} (how:W.ownsRow lo e size v n xs) (he:e ≠ 27) (hT:Typ W W') (hg:W.grownBy W' v.ownBlock):SpB w cb lo K Kb ns hold W' v1 v2 v3:=by
 cases hv:v.ownBlock with
 | none=>
  rw [hv] at hg;exact h.call ⟨hg.os,hg.tape,hg.output,hg.size,fun k hk=>hg.block k hk (by intro z; cases z)⟩
 | some g=>
  rw [hv] at hg;obtain ⟨cur,hc⟩:=zwy how hv;refine h.typed hT (g:=g) (zat how hv).1 ⟨hg.os,hg.tape,hg.output,hg.size,fun k hk hkn=>hg.block k hk (by intro z; cases z; exact hkn rfl)⟩ fun b f hr z=>?_;subst z;exact he (zwx hr hc)
theorem SpB.setI {w:World} {cb lo K Kb:Nat} {ns hold:Int} {W:World} {v1 v2 v3:Value} (h:SpB w cb lo K Kb ns hold W v1 v2 v3) {g:Nat} {cur:Array Value} {e:Nat} (hg:W.heap[g]? = some (.cells cur e (0,0))) (he:e ≠ 27) (hlg:lo ≤ g) (o:Nat) {u:Value} (hu:zxq e u):SpB w cb lo K Kb ns hold (W.setCell ⟨g,o,none⟩ u) v1 v2 v3:=by
 refine h.typed (.set hg o hu) hlg ((But.refl (fun c=>c ≠ g) W).setCell (p:=⟨g,o,none⟩) (fun z=>z rfl) u) fun b f hr z=>?_;subst z;exact he (zwx hr hg)
theorem SpB.sw {w:World} {cb lo K Kb:Nat} {ns hold:Int} {W:World} {a1:Option Addr} {n1 c1:Nat} {v2 v3:Value} (h:SpB w cb lo K Kb ns hold W (.slice a1 n1 c1) v2 v3) {y:Nat} (hy:y < n1):∃ g cur x,a1 = some ⟨g,0,none⟩ ∧ lo ≤ g ∧ W.heap[g]? = some (.cells cur 3 (0,0)) ∧ W.cell? ⟨g,y,none⟩ = some (.int .i64 x):=by
 obtain ⟨l,o,-⟩:=h.spl.sw
 have hl:l.length = n1:=by obtain ⟨a,c,e⟩:=zag o; cases e; rfl
 obtain ⟨g,cap,e,hlg,-,hc⟩:=zc6 o (by omega);obtain ⟨cur,hg⟩:=zwy o (g:=g) (by rw [e]; rfl);obtain ⟨x,hx⟩:=zb4 l (show y < l.length by omega);refine ⟨g,cur,x,by cases e; rfl,hlg,hg,hc y _ (by unfold zcg; rw [List.getElem?_map,hx]; rfl)⟩
theorem SpB.row {w:World} {cb lo K Kb:Nat} {ns hold:Int} {W:World} {a3:Option Addr} {n3 c3:Nat} {v1 v2:Value} (h:SpB w cb lo K Kb ns hold W v1 v2 (.slice a3 n3 c3)) {r:Nat} (hr:r < n3) :
  ∃ (g o:Nat) (s:Option Addr) (n t:Nat),a3 = some ⟨g,o,none⟩ ∧ lo ≤ g ∧ n ≤ 100 ∧ W.cell? ⟨g,o + r,none⟩ = some (.slice s n t) ∧ (0 < n → ∃ (gr:Nat) (cur:Array Value),s = some ⟨gr,0,none⟩ ∧ lo ≤ gr ∧ W.heap[gr]? = some (.cells cur 4 (0,0)) ∧ ∀ k:Nat,k < n → ∃ b,W.cell? ⟨gr,k,none⟩ = some (.bool b)):=by
 obtain ⟨l,o,-,hs⟩:=h.spl.bars;obtain ⟨a,cap,e,-,-,h2⟩:=o.own
 have hln:l.length = n3:=by cases e; rfl
 have haa:a3 = a:=by cases e; rfl
 rcases h2 with h2 | ⟨g,o',cur,rfl,hlg,hg,hc⟩
 ·omega
 obtain ⟨x,hx⟩:=zb4 l (show r < l.length by omega);have hor:=o.rows x (List.mem_of_getElem? hx);obtain ⟨s,t,es⟩:=zag hor;have hcr:=hc r x.1 (by rw [List.getElem?_map,hx]; rfl);refine ⟨g,o',s,x.2.length,t,haa,hlg,hs x (List.mem_of_getElem? hx),by rw [← es]; simp [World.cell?,hg,hcr],fun hn=>?_⟩;obtain ⟨gr,cap2,e2,hlr,-,hcc⟩:=zc6 hor hn;obtain ⟨cur2,hg2⟩:=zwy hor (g:=gr) (by rw [e2]; rfl);refine ⟨gr,cur2,by rw [es] at e2; cases e2; rfl,hlr,hg2,fun k hk=>?_⟩;obtain ⟨b,hb⟩:=zb4 x.2 hk;exact ⟨b,hcc k _ (by rw [List.getElem?_map,hb]; rfl)⟩
theorem SpS.bars1 {W:World} {lo K:Nat} {v1 v2:Value} {g o n c:Nat} (h:SpS W lo K v1 v2 (.slice (some ⟨g,o,none⟩) n c)) (hn:0 < n):SpS W lo K v1 v2 (.slice (if c = 1 then some ⟨g,o,none⟩ else some ⟨g,o + 1,none⟩) (n - 1) (c - 1)):=by
 refine ⟨h.sw,h.ways,?_⟩;obtain ⟨l,q,hl,hs⟩:=h.bars;obtain ⟨a,cap,e,h1,h3,h2⟩:=q.own
 have hln:l.length = n:=by cases e; rfl
 have hca:c = cap:=by cases e; rfl
 have haa:some ⟨g,o,none⟩ = a:=by cases e; rfl
 rcases l with _ | ⟨x,l⟩
 ·simp at hln; omega
 have hl1:l.length = n - 1:=by simp at hln; omega
 refine ⟨l,⟨⟨_,c - 1,by rw [hl1],by simp at h1; omega,by omega,?_⟩,fun y hy=>q.rows y (List.mem_cons_of_mem _ hy)⟩,by simp at hl; omega,fun y hy=>hs y (List.mem_cons_of_mem _ hy)⟩;by_cases h0:l.length = 0
 ·exact .inl h0
 ·rcases h2 with h2 | ⟨g',o',cur,e',hlg,hg,hc⟩
  ·simp at h2
  rw [e'] at haa
  cases haa
  refine .inr ⟨g,o + 1,cur,if_neg (by simp at h1; omega),hlg,hg,fun j u hu=>?_⟩;have:=hc (j + 1) u (by simpa using hu);rw [show o + 1 + j = o + (j + 1) by omega];exact this
theorem zxl (x:Int):∀ u ∈ ([.int .i64 x]:List Value),zxq 3 u:=fun u hu=>by rw [List.mem_singleton.1 hu]; exact .inl ⟨.inl rfl,x,rfl⟩
theorem zxx (x y:Int):∀ u ∈ ([.int .i64 x,.int .i64 y]:List Value),zxq 58 u:=fun u hu=>by
 rcases List.mem_cons.1 hu with rfl | hu
 ·exact .inl ⟨.inr rfl,x,rfl⟩
 ·rw [List.mem_singleton.1 hu]; exact .inl ⟨.inr rfl,y,rfl⟩
theorem zxy (x:Int):∀ u ∈ ([.int .i64 x]:List Value),u.oneCell' = true:=fun u hu=>by rw [List.mem_singleton.1 hu]; rfl
theorem SpB.way {w:World} {cb lo K Kb L:Nat} {ns hold:Int} {W:World} {v1 v2 v3:Value} (h:SpB w cb lo K Kb ns hold W v1 v2 v3) {g:Nat} {cur:Array Value} (hcur:W.heap[g]? = some (.cells cur 51 (0,0))) (hlg:lo ≤ g) {o:Nat} {u:Value} (hsp:SpS (W.setCell ⟨g,o,none⟩ u) lo L v1 v2 v3):SpB w cb lo K L ns hold (W.setCell ⟨g,o,none⟩ u) v1 v2 v3:=by
 obtain ⟨r,hr⟩:=h.res;have h1:=h.hcb;have hB:=(But.refl (fun c=>c ≠ g) W).setCell (p:=⟨g,o,none⟩) (fun z=>z rfl) u
 have n1:w.heap.size ≠ g:=fun z=>by subst z; exact absurd (zwx h.box hcur) (by decide)
 have n2:w.heap.size + 1 ≠ g:=fun z=>by subst z; exact absurd (zwx hr hcur) (by decide)
 exact ⟨h.but.trans (hB.mono fun c _ hc=>by omega),h.cur.but hB fun b hb=>by omega,hsp,hB.row h.box n1,⟨r,hB.row hr n2⟩,h1,h.hlo,fun b f hl hk=>hB.row (h.keep b f hl hk) fun z=>by
  have:=h.keep b f hl hk;subst z
  exact absurd (zwx this hcur) (by decide)⟩
set_option maxRecDepth 100000 in
set_option maxHeartbeats 16000000 in
theorem zw9 (cb K lo Kb ns:Nat) (v1 v2 v3:Value) (hold:Int) (w:World) (hc:Cur w cb K) (hK:K ≤ 100000) (hns:ns ≤ 61) (hS:SpS w lo Kb v1 v2 v3) (hcb:cb < lo) (hlo:lo ≤ w.heap.size) (hKb:Kb ≤ 100) :
  Calls Tryz.prog 73 #[.pointer (some ⟨cb,0,none⟩),.agg #[.int .i64 (ns:Int),v1,v2,v3,.int .i64 hold]] w fun e w'=>zxv w cb lo K Kb e w':=by
 obtain ⟨a1,n1,c1,hn1,rfl⟩:∃ a n c,n ≤ 100 ∧ v1 = .slice a n c:=by
  obtain ⟨l,o,b⟩:=hS.sw;obtain ⟨a,c,e⟩:=zag o;exact ⟨a,_,c,b,e⟩
 obtain ⟨a2,n2,c2,hn2,rfl⟩:∃ a n c,n ≤ 100 ∧ v2 = .slice a n c:=by
  obtain ⟨l,o,b,-⟩:=hS.ways;obtain ⟨a,c,e⟩:=zag o.own;exact ⟨a,_,c,b,e⟩
 obtain ⟨a3,n3,c3,hn3,rfl⟩:∃ a n c,n ≤ 100 ∧ v3 = .slice a n c:=by
  obtain ⟨l,o,b,-⟩:=hS.bars;obtain ⟨a,c,e,-⟩:=o.own;exact ⟨a,_,c,b,e⟩
 have T0:=zbc w 27 27 #[.int .i64 (ns:Int),.slice a1 n1 c1,.slice a2 n2 c2,.slice a3 n3 c3,.int .i64 hold] #[.int .i64 0,.slice none 0 0,.slice none 0 0,.slice none 0 0,.int .i64 0];have hb0:=T0.row 0 _ _ rfl;rw [Nat.add_zero] at hb0;have hB0:SpB w cb lo K Kb (ns:Int) hold _ (.slice a1 n1 c1) (.slice a2 n2 c2) (.slice a3 n3 c3):=⟨But.of_calls T0.below,hc.but (Q:=fun _=>True) (But.of_calls T0.below) fun _ _=>trivial,hS.typ (.of_calls T0.below),hb0,⟨_,T0.row 1 _ _ rfl⟩,hcb,hlo,fun b f _ hr=>zah hr T0.below⟩;obtain ⟨W0,hW0⟩:∃ W,W = (w.alloc (.cells #[.int .i64 (ns:Int),.slice a1 n1 c1,.slice a2 n2 c2,.slice a3 n3 c3,.int .i64 hold] 27)).alloc (.cells #[.int .i64 0,.slice none 0 0,.slice none 0 0,.slice none 0 0,.int .i64 0] 27):=⟨_,rfl⟩;rw [← hW0] at hB0;have HB:=zaa hB0;clear T0 hb0 hB0 hS hc;go_enter Tryz.func73,Tryz.ntmps73
 go_upto_region 1 with fail
 rw [← hW0];clear hW0;have e2:=HB.out.box.cell (i:=2) (by show 2 < 5; omega);by_cases h0:n2 = 0
 ·subst h0;have e4:=HB.out.box.cell (i:=4) (by show 4 < 5; omega);have f4:=HB.out.box.frozen 4;have hB:=HB.out.set4 0;clear HB
  go_upto_region 3 with fail
  obtain ⟨W1,hW1⟩:∃ W,W = W0.setCell ⟨w.heap.size,4,none⟩ (.int .i64 0):=⟨_,rfl⟩;rw [← hW1] at hB ⊢;clear hW1 e2 e4 f4;obtain ⟨gR,hR⟩:=hB.res;have r0:=hR.cell (i:=0) (by show 0 < 5; omega);have k0:=hR.frozen 0;have r1:=hR.cell (i:=1) (by show 1 < 5; omega);have k1:=hR.frozen 1;have r2:=hR.cell (i:=2) (by show 2 < 5; omega);have k2:=hR.frozen 2;have r3:=hR.cell (i:=3) (by show 3 < 5; omega);have k3:=hR.frozen 3;have r4:=hR.cell (i:=4) (by show 4 < 5; omega);have k4:=hR.frozen 4;have e0:=hB.box.cell (i:=0) (by show 0 < 5; omega);have e1:=hB.box.cell (i:=1) (by show 1 < 5; omega);have e2:=hB.box.cell (i:=2) (by show 2 < 5; omega);have e3:=hB.box.cell (i:=3) (by show 3 < 5; omega);have e4:=hB.box.cell (i:=4) (by show 4 < 5; omega);have HBB:=zaa hB;clear hB hR;go_wp2;refine bodyPost_ret (v:=.agg #[.int .i64 ((ns:Int):Int),.slice a1 n1 c1,.slice a2 0 c2,.slice a3 n3 c3,.int .i64 0]) (by simp [results,Tryz.results73,go_sem,r0,r1,r2,r3,r4]) rfl ?_;exact zwu HBB.out (by omega) (by omega) (by omega)
 have h0b:((n2:Int) == 0) = false:=by simp; omega
 go_upto_region 4 with fail
 clear e2 h0b;have hks:∀ W,SpB w cb lo K Kb (ns:Int) hold W (.slice a1 n1 c1) (.slice a2 n2 c2) (.slice a3 n3 c3) → (fun W:World=>W.cell? ⟨w.heap.size,2,none⟩ = some (.slice a2 n2 c2)) W:=fun W h=>h.box.cell (i:=2) (by show 2 < 5; omega);have KS:=zaa hks;have KS2:=zaa fun (W:World) (h:SpB w cb lo (K + 2) Kb (ns:Int) hold W (.slice a1 n1 c1) (.slice a2 n2 c2) (.slice a3 n3 c3))=>(show W.cell? ⟨w.heap.size,2,none⟩ = some (.slice a2 n2 c2) from h.box.cell (i:=2) (by show 2 < 5; omega));clear hks
 go_cut [5] (fun v wc=>∃ i:Nat,i < n2 ∧ (∃ gy:Nat,a2 = some ⟨gy,0,none⟩ ∧ v = .pointer (some ⟨gy,i * 5,none⟩)) ∧ SpB w cb lo (K + 2) Kb (ns:Int) hold wc (.slice a1 n1 c1) (.slice a2 n2 c2) (.slice a3 n3 c3))
 case first=>
  obtain ⟨gy,rfl⟩:∃ g:Nat,a2 = some ⟨g,0,none⟩:=by
   obtain ⟨l,o,-⟩:=HB.out.spl.ways
   have hl:l.length = n2:=by obtain ⟨a,c,e⟩:=zag o.own; cases e; rfl
   obtain ⟨g,cap,e,-⟩:=zc6 o.own (by omega)
   cases e
   exact ⟨g,rfl⟩
  refine zwt (S:=fun W:World=>W.cell? ⟨w.heap.size,2,none⟩ = some (.slice (some ⟨gy,0,none⟩) n2 c2)) 9 9 (by kernel_rfl) (by kernel_rfl) (KS.out _ (HB.out.call (zaf _))) (fun hS=>?_);have hB:=HB.out.call (zaf W0);obtain ⟨wD,hwD⟩:∃ W,W = W0.drew:=⟨_,rfl⟩;rw [← hwD] at hS hB ⊢;clear hwD
  iterate 6
   refine tfI (by rfl) (by kernel_rfl) (by exact fun _ _ _ h=>h) (by kernel_rfl) (by intro _ s; (try dsimp only at s); go_simp; try with_reducible rfl) hS ?_
   try simp only [Act.put,sA,sB,sC]
  clear hS;refine zbk (i:=6) At.z.s.s.s.s.s.s (by kernel_rfl) (fun K2 hK2=>?_);go_simp;refine (zap cb K n2 wD hB.cur (by omega) (by omega)).mono ?_;rintro e w1 ⟨i,rfl,hi,hc1,hB1⟩;have hB2:=hB.pick hB1 hc1;have hS:=KS2.out _ hB2;refine hK2.out _ _ hS ?_;clear hK2 K2 hc1 hB1
  try simp only [Act.put,sA,sB,sC]
  have hin:i < n2:=by omega
  have hinI:(i:Int) < (n2:Int):=by omega
  iterate 2
   refine tfI (by rfl) (by kernel_rfl) (by exact fun _ _ _ h=>h) (by kernel_rfl) (by intro _ s; (try dsimp only at s); go_simp; try with_reducible rfl) hS ?_
   try simp only [Act.put,sA,sB,sC]
  refine zlu (by kernel_rfl) ?_;go_wp2;go_meet
  case rel=>exact ⟨i,hin,⟨gy,rfl,rfl⟩,hB2⟩
 case rest=>
  obtain ⟨i,hin,⟨gy,rfl,rfl⟩,hB⟩:=hcut;clear HB KS KS2;have HCP:=zaa (zap cb (K + 2) 10 wc hB.cur (by omega) (by omega));have HB:=zaa hB;clear hB h0
  go_wp2_with fail
  refine HCP.out.mono ?_;rintro e w2 ⟨x,rfl,hx,hc2,hB2⟩;have hB:=HB.out.pick hB2 hc2;have HB3:=zaa hB;clear HCP HB hc2 hB2 hB
  obtain rfl | rfl | rfl | rfl | rfl | rfl | rfl | rfl | rfl | rfl:x = 0 ∨ x = 1 ∨ x = 2 ∨ x = 3 ∨ x = 4 ∨ x = 5 ∨ x = 6 ∨ x = 7 ∨ x = 8 ∨ x = 9:=by omega
  ·have hbn:=zab w2 (.cells #[.int .i64 0,.int .i64 1,.int .i64 60,.int .i64 61] 3);have hrn:(w2.alloc (.cells #[.int .i64 0,.int .i64 1,.int .i64 60,.int .i64 61] 3)).rowIs w2.heap.size 3 4 (fun i=>(#[.int .i64 0,.int .i64 1,.int .i64 60,.int .i64 61]:Array Value)[i]!):=zak w2 3 #[.int .i64 0,.int .i64 1,.int .i64 60,.int .i64 61];have hBn:=HB3.out.call hbn;have hlt2:cb < w2.heap.size:=HB3.out.cur.lt;have HCP:=zaa (zap cb (K + 2 + 2) 4 _ hBn.cur (by omega) (by omega));have HBN:=zaa hBn;have HRN:=zaa hrn;clear hbn hrn hBn HB3
   go_wp2_with fail
   refine HCP.out.mono ?_;rintro e w3 ⟨y,rfl,hy,hc3,hB3⟩;have hB:=HBN.out.pick hB3 hc3;have hrow:=hB3.row HRN.out (by omega)
   obtain ⟨lv,hlv,hlr⟩:∃ lv:Nat,lv ≤ 301 ∧ w3.cell? ⟨w2.heap.size,y,none⟩ = some (.int .i64 (lv:Int)) ∧ (lv ≤ 61 ∨ 4 = 3):=by
    obtain rfl | rfl | rfl | rfl:y = 0 ∨ y = 1 ∨ y = 2 ∨ y = 3:=by omega
    ·exact ⟨0,by omega,hrow.cell (i:=0) (by omega),by omega⟩
    ·exact ⟨1,by omega,hrow.cell (i:=1) (by omega),by omega⟩
    ·exact ⟨60,by omega,hrow.cell (i:=2) (by omega),by omega⟩
    ·exact ⟨61,by omega,hrow.cell (i:=3) (by omega),by omega⟩
   obtain ⟨hlr,hlz⟩:=hlr
   have hyn:(y:Int) < 4:=by omega
   have e0:=hB.box.cell (i:=0) (by show 0 < 5; omega);have f0:=hB.box.frozen 0;have hB4:=hB.set0 (lv:Int);clear HCP HBN HRN hc3 hB3 hrow hB hx hy
   go_upto_region 33 with fail
   obtain ⟨W4,hW4⟩:∃ W,W = w3.setCell ⟨w.heap.size,0,none⟩ (.int .i64 (lv:Int)):=⟨_,rfl⟩;rw [← hW4] at hB4 ⊢;clear hW4 e0 f0 hlr;obtain ⟨gR,hR⟩:=hB4.res;have r0:=hR.cell (i:=0) (by show 0 < 5; omega);have k0:=hR.frozen 0;have r1:=hR.cell (i:=1) (by show 1 < 5; omega);have k1:=hR.frozen 1;have r2:=hR.cell (i:=2) (by show 2 < 5; omega);have k2:=hR.frozen 2;have r3:=hR.cell (i:=3) (by show 3 < 5; omega);have k3:=hR.frozen 3;have r4:=hR.cell (i:=4) (by show 4 < 5; omega);have k4:=hR.frozen 4;have e0:=hB4.box.cell (i:=0) (by show 0 < 5; omega);have e1:=hB4.box.cell (i:=1) (by show 1 < 5; omega);have e2:=hB4.box.cell (i:=2) (by show 2 < 5; omega);have e3:=hB4.box.cell (i:=3) (by show 3 < 5; omega);have e4:=hB4.box.cell (i:=4) (by show 4 < 5; omega);have HBB:=zaa hB4;clear hB4 hR;go_wp2;refine bodyPost_ret (v:=.agg #[.int .i64 ((lv:Int):Int),.slice a1 n1 c1,.slice (some ⟨gy,0,none⟩) n2 c2,.slice a3 n3 c3,.int .i64 hold]) (by simp [results,Tryz.results73,go_sem,r0,r1,r2,r3,r4]) rfl ?_;exact zwu HBB.out (by omega) (by omega) (by omega)
  ·have hbn:=zab w2 (.cells #[.int .i64 0,.int .i64 300,.int .i64 301] 3);have hrn:(w2.alloc (.cells #[.int .i64 0,.int .i64 300,.int .i64 301] 3)).rowIs w2.heap.size 3 3 (fun i=>(#[.int .i64 0,.int .i64 300,.int .i64 301]:Array Value)[i]!):=zak w2 3 #[.int .i64 0,.int .i64 300,.int .i64 301];have hBn:=HB3.out.call hbn;have hlt2:cb < w2.heap.size:=HB3.out.cur.lt;have HCP:=zaa (zap cb (K + 2 + 2) 3 _ hBn.cur (by omega) (by omega));have HBN:=zaa hBn;have HRN:=zaa hrn;clear hbn hrn hBn HB3
   go_wp2_with fail
   refine HCP.out.mono ?_;rintro e w3 ⟨y,rfl,hy,hc3,hB3⟩;have hB:=HBN.out.pick hB3 hc3;have hrow:=hB3.row HRN.out (by omega)
   obtain ⟨lv,hlv,hlr⟩:∃ lv:Nat,lv ≤ 301 ∧ w3.cell? ⟨w2.heap.size,y,none⟩ = some (.int .i64 (lv:Int)) ∧ (lv ≤ 61 ∨ 3 = 3):=by
    obtain rfl | rfl | rfl:y = 0 ∨ y = 1 ∨ y = 2:=by omega
    ·exact ⟨0,by omega,hrow.cell (i:=0) (by omega),by omega⟩
    ·exact ⟨300,by omega,hrow.cell (i:=1) (by omega),by omega⟩
    ·exact ⟨301,by omega,hrow.cell (i:=2) (by omega),by omega⟩
   obtain ⟨hlr,hlz⟩:=hlr
   have hyn:(y:Int) < 3:=by omega
   have e4:=hB.box.cell (i:=4) (by show 4 < 5; omega);have f4:=hB.box.frozen 4;have hB4:=hB.set4 (lv:Int);clear HCP HBN HRN hc3 hB3 hrow hB hx hy
   go_upto_region 33 with fail
   obtain ⟨W4,hW4⟩:∃ W,W = w3.setCell ⟨w.heap.size,4,none⟩ (.int .i64 (lv:Int)):=⟨_,rfl⟩;rw [← hW4] at hB4 ⊢;clear hW4 e4 f4 hlr;obtain ⟨gR,hR⟩:=hB4.res;have r0:=hR.cell (i:=0) (by show 0 < 5; omega);have k0:=hR.frozen 0;have r1:=hR.cell (i:=1) (by show 1 < 5; omega);have k1:=hR.frozen 1;have r2:=hR.cell (i:=2) (by show 2 < 5; omega);have k2:=hR.frozen 2;have r3:=hR.cell (i:=3) (by show 3 < 5; omega);have k3:=hR.frozen 3;have r4:=hR.cell (i:=4) (by show 4 < 5; omega);have k4:=hR.frozen 4;have e0:=hB4.box.cell (i:=0) (by show 0 < 5; omega);have e1:=hB4.box.cell (i:=1) (by show 1 < 5; omega);have e2:=hB4.box.cell (i:=2) (by show 2 < 5; omega);have e3:=hB4.box.cell (i:=3) (by show 3 < 5; omega);have e4:=hB4.box.cell (i:=4) (by show 4 < 5; omega);have HBB:=zaa hB4;clear hB4 hR;go_wp2;refine bodyPost_ret (v:=.agg #[.int .i64 ((ns:Int):Int),.slice a1 n1 c1,.slice (some ⟨gy,0,none⟩) n2 c2,.slice a3 n3 c3,.int .i64 (lv:Int)]) (by simp [results,Tryz.results73,go_sem,r0,r1,r2,r3,r4]) rfl ?_;exact zwu HBB.out (by omega) (by omega) (by omega)
  ·have e0:=HB3.out.box.cell (i:=0) (by show 0 < 5; omega);have e1:=HB3.out.box.cell (i:=1) (by show 1 < 5; omega);by_cases h1:n1 = 0
   ·subst h1;have hB:=HB3.out;clear HB3 hx e0
    go_upto_region 33 with fail
    clear e1;obtain ⟨gR,hR⟩:=hB.res;have r0:=hR.cell (i:=0) (by show 0 < 5; omega);have k0:=hR.frozen 0;have r1:=hR.cell (i:=1) (by show 1 < 5; omega);have k1:=hR.frozen 1;have r2:=hR.cell (i:=2) (by show 2 < 5; omega);have k2:=hR.frozen 2;have r3:=hR.cell (i:=3) (by show 3 < 5; omega);have k3:=hR.frozen 3;have r4:=hR.cell (i:=4) (by show 4 < 5; omega);have k4:=hR.frozen 4;have e0:=hB.box.cell (i:=0) (by show 0 < 5; omega);have e1:=hB.box.cell (i:=1) (by show 1 < 5; omega);have e2:=hB.box.cell (i:=2) (by show 2 < 5; omega);have e3:=hB.box.cell (i:=3) (by show 3 < 5; omega);have e4:=hB.box.cell (i:=4) (by show 4 < 5; omega);have HBB:=zaa hB;clear hB hR;go_wp2;refine bodyPost_ret (v:=.agg #[.int .i64 ((ns:Int):Int),.slice a1 0 c1,.slice (some ⟨gy,0,none⟩) n2 c2,.slice a3 n3 c3,.int .i64 hold]) (by simp [results,Tryz.results73,go_sem,r0,r1,r2,r3,r4]) rfl ?_;exact zwu HBB.out (by omega) (by omega) (by omega)
   have h1p:(0:Int) < (n1:Int):=by omega
   have hks:∀ (W:World) L,SpB w cb lo L Kb (ns:Int) hold W (.slice a1 n1 c1) (.slice (some ⟨gy,0,none⟩) n2 c2) (.slice a3 n3 c3) → (fun W:World=>W.cell? ⟨w.heap.size,0,none⟩ = some (.int .i64 (ns:Int)) ∧ W.cell? ⟨w.heap.size,1,none⟩ = some (.slice a1 n1 c1)) W:=fun W L h=>⟨h.box.cell (i:=0) (by show 0 < 5; omega),h.box.cell (i:=1) (by show 1 < 5; omega)⟩;have KS:=zaa hks;clear hks hx
   go_upto_region 13 with fail
   refine zwt (S:=fun W:World=>W.cell? ⟨w.heap.size,0,none⟩ = some (.int .i64 (ns:Int)) ∧ W.cell? ⟨w.heap.size,1,none⟩ = some (.slice a1 n1 c1)) 19 19 (by kernel_rfl) (by kernel_rfl) (KS.out _ _ (HB3.out.call (zaf _))) (fun hS=>?_);have hB:=HB3.out.call (zaf w2);obtain ⟨wD,hwD⟩:∃ W,W = w2.drew:=⟨_,rfl⟩;rw [← hwD] at hS hB ⊢;clear hwD HB3 e0 e1
   iterate 6
    refine tfI (by rfl) (by kernel_rfl) (by exact fun _ _ _ h=>h) (by kernel_rfl) (by intro _ s; (try dsimp only at s); go_simp; try with_reducible rfl) hS ?_
    try simp only [Act.put,sA,sB,sC]
   refine tfG At.z.s.s.s.s.s.s.s (by kernel_rfl) (fun _ _ _ h=>h) (by kernel_rfl) (by intro _ s; (try dsimp only at s); go_simp; try with_reducible rfl) hS ?_
   try simp only [Act.put,sA,sB,sC]
   refine tfG At.z.s.s.s.s.s.s.s.s (by kernel_rfl) (fun _ _ _ h=>h) (by kernel_rfl) (by intro _ s; (try dsimp only at s); go_simp; try with_reducible rfl) hS ?_
   try simp only [Act.put,sA,sB,sC]
   refine tfG At.z.s.s.s.s.s.s.s.s.s (by kernel_rfl) (fun _ _ _ h=>h) (by kernel_rfl) (by intro _ s; (try dsimp only at s); go_simp; try with_reducible rfl) hS ?_
   try simp only [Act.put,sA,sB,sC]
   rw [show IntKind.i64.wrap ((ns:Int) - 1) = (ns:Int) - 1 from IntWalk.i64_in _ ⟨by omega,by omega⟩];refine tfG At.z.s.s.s.s.s.s.s.s.s.s (by kernel_rfl) (fun _ _ _ h=>h) (by kernel_rfl) (by intro _ s; (try dsimp only at s); go_simp; try with_reducible rfl) hS ?_
   try simp only [Act.put,sA,sB,sC]
   refine tfG At.z.s.s.s.s.s.s.s.s.s.s.s (by kernel_rfl) (fun _ _ _ h=>h) (by kernel_rfl) (by intro _ s; (try dsimp only at s); go_simp; try with_reducible rfl) hS ?_
   try simp only [Act.put,sA,sB,sC]
   refine tfG At.z.s.s.s.s.s.s.s.s.s.s.s.s.s (by kernel_rfl) (fun _ _ _ h=>h) (by kernel_rfl) (by intro _ s; (try dsimp only at s); go_simp; try with_reducible rfl) hS ?_
   try simp only [Act.put,sA,sB,sC]
   clear hS;refine zq0 At.z.s.s.s.s.s.s At.z.s.s.s.s.s.s.s.s.s.s.s.s (by kernel_rfl) (fun K1 hK1=>?_) (fun K1 hK1=>?_)
   ·go_simp;refine (zap cb (K + 2 + 2) n1 wD hB.cur (by omega) (by omega)).mono ?_;rintro e wP ⟨y,rfl,hy,hcq,hBq⟩;replace hB:=hB.pick hBq hcq;refine hK1.out _ _ (KS.out _ _ hB) ?_;clear hK1 K1 hcq hBq
    try simp only [Act.put,sA,sB,sC]
    refine zq0 At.z.s.s.s.s.s.s.s.s.s.s.s.s At.z.s.s.s.s.s.s.s.s.s.s.s.s.s.s (by kernel_rfl) (fun K1 hK1=>?_) (fun K1 hK1=>?_)
    ·go_simp;have hltb:cb < wP.heap.size:=hB.cur.lt;have hrow:(wP.alloc (.cells #[.int .i64 (-1),.int .i64 ((ns:Int) - 1),.int .i64 (ns:Int)] 3)).rowIs wP.heap.size 3 3 (fun i=>(#[.int .i64 (-1),.int .i64 ((ns:Int) - 1),.int .i64 (ns:Int)]:Array Value)[i]!):=zak wP 3 #[.int .i64 (-1),.int .i64 ((ns:Int) - 1),.int .i64 (ns:Int)];replace hB:=hB.call (zab wP (.cells #[.int .i64 (-1),.int .i64 ((ns:Int) - 1),.int .i64 (ns:Int)] 3));refine hK1.out _ _ (KS.out _ _ hB) ?_;obtain ⟨wQ,hWn⟩:∃ W,W = wP.alloc (.cells #[.int .i64 (-1),.int .i64 ((ns:Int) - 1),.int .i64 (ns:Int)] 3):=⟨_,rfl⟩;obtain ⟨lb,hlb⟩:∃ b,b = wP.heap.size:=⟨_,rfl⟩;rw [← hWn] at hB hrow ⊢;rw [← hlb] at hrow hltb ⊢;clear hK1 K1 hWn hlb
     try simp only [Act.put,sA,sB,sC]
     refine zbk (i:=14) At.z.s.s.s.s.s.s.s.s.s.s.s.s.s.s (by kernel_rfl) (fun K1 hK1=>?_);go_simp;refine (zap cb (K + 2 + 2 + 2) 3 wQ hB.cur (by omega) (by omega)).mono ?_;rintro e wR ⟨y2,rfl,hy2,hcq,hBq⟩;replace hB:=hB.pick hBq hcq;replace hrow:=hBq.row hrow (show lb ≠ cb by omega);refine hK1.out _ _ (KS.out _ _ hB) ?_;clear hK1 K1 hcq hBq
     try simp only [Act.put,sA,sB,sC]
     have hyn:y < n1:=by omega
     have hyI:(y:Int) < (n1:Int):=by omega
     have hy3:(y2:Int) < 3:=by omega
     obtain ⟨g1,cur1,x1,rfl,hlg1,hg1,zc⟩:=hB.sw hyn
     obtain ⟨lv,zl⟩:∃ lv:Int,wR.cell? ⟨lb,y2,none⟩ = some (.int .i64 lv):=by
      obtain rfl | rfl | rfl:y2 = 0 ∨ y2 = 1 ∨ y2 = 2:=by omega
      ·exact ⟨_,hrow.cell (i:=0) (by omega)⟩
      ·exact ⟨_,hrow.cell (i:=1) (by omega)⟩
      ·exact ⟨_,hrow.cell (i:=2) (by omega)⟩
     have fz:wR.frozen? ⟨g1,y,none⟩ = false:=by simp [World.frozen?,hg1]
     have hB6:=hB.setI hg1 (by decide) hlg1 y (u:=.int .i64 lv) (.inl ⟨.inl rfl,_,rfl⟩);have hS:=KS.out _ _ hB;have hS6:=KS.out _ _ hB6;clear hrow hg1 hy hy2 hB;refine tfG At.z.s.s.s.s.s.s.s.s.s.s.s.s.s.s.s (by kernel_rfl) (fun _ _ _ h=>h) (by kernel_rfl) (by intro _ s; (try dsimp only at s); go_simp; try with_reducible rfl) hS ?_
     try simp only [Act.put,sA,sB,sC]
     refine zbk (i:=16) At.z.s.s.s.s.s.s.s.s.s.s.s.s.s.s.s.s (by kernel_rfl) (fun K1 hK1=>?_);go_simp;refine hK1.out _ _ hS ?_;clear hK1 K1 zl
     try simp only [Act.put,sA,sB,sC]
     refine zbk (i:=17) At.z.s.s.s.s.s.s.s.s.s.s.s.s.s.s.s.s.s (by kernel_rfl) (fun K1 hK1=>?_);go_simp;refine hK1.out _ _ hS ?_;clear hK1 K1 hS
     try simp only [Act.put,sA,sB,sC]
     refine zbk (i:=18) At.z.s.s.s.s.s.s.s.s.s.s.s.s.s.s.s.s.s.s (by kernel_rfl) (fun K1 hK1=>?_);go_simp;refine hK1.out _ _ hS6 ?_;obtain ⟨W6,hW6⟩:∃ W,W = wR.setCell ⟨g1,y,none⟩ (.int .i64 lv):=⟨_,rfl⟩;rw [← hW6] at hB6 ⊢;clear hK1 K1 hW6 fz zc hS6
     try simp only [Act.put,sA,sB,sC]
     refine zlu (by kernel_rfl) ?_;obtain ⟨gR,hR⟩:=hB6.res;have r0:=hR.cell (i:=0) (by show 0 < 5; omega);have k0:=hR.frozen 0;have r1:=hR.cell (i:=1) (by show 1 < 5; omega);have k1:=hR.frozen 1;have r2:=hR.cell (i:=2) (by show 2 < 5; omega);have k2:=hR.frozen 2;have r3:=hR.cell (i:=3) (by show 3 < 5; omega);have k3:=hR.frozen 3;have r4:=hR.cell (i:=4) (by show 4 < 5; omega);have k4:=hR.frozen 4;have e0:=hB6.box.cell (i:=0) (by show 0 < 5; omega);have e1:=hB6.box.cell (i:=1) (by show 1 < 5; omega);have e2:=hB6.box.cell (i:=2) (by show 2 < 5; omega);have e3:=hB6.box.cell (i:=3) (by show 3 < 5; omega);have e4:=hB6.box.cell (i:=4) (by show 4 < 5; omega);have HBB:=zaa hB6;clear hB6 hR;go_wp2;refine bodyPost_ret (v:=.agg #[.int .i64 ((ns:Int):Int),.slice (some ⟨g1,0,none⟩) n1 c1,.slice (some ⟨gy,0,none⟩) n2 c2,.slice a3 n3 c3,.int .i64 hold]) (by simp [results,Tryz.results73,go_sem,r0,r1,r2,r3,r4]) rfl ?_;exact zwu HBB.out (by omega) (by omega) (by omega)
    ·go_simp;refine (zap cb (K + 2 + 2 + 2) 3 wP hB.cur (by omega) (by omega)).mono ?_;rintro e wQ ⟨y2,rfl,hy2,hcq,hBq⟩;replace hB:=hB.pick hBq hcq;refine hK1.out _ _ (KS.out _ _ hB) ?_;clear hK1 K1 hcq hBq
     try simp only [Act.put,sA,sB,sC]
     refine zbk (i:=12) At.z.s.s.s.s.s.s.s.s.s.s.s.s (by kernel_rfl) (fun K1 hK1=>?_);go_simp;have hltb:cb < wQ.heap.size:=hB.cur.lt;have hrow:(wQ.alloc (.cells #[.int .i64 (-1),.int .i64 ((ns:Int) - 1),.int .i64 (ns:Int)] 3)).rowIs wQ.heap.size 3 3 (fun i=>(#[.int .i64 (-1),.int .i64 ((ns:Int) - 1),.int .i64 (ns:Int)]:Array Value)[i]!):=zak wQ 3 #[.int .i64 (-1),.int .i64 ((ns:Int) - 1),.int .i64 (ns:Int)];replace hB:=hB.call (zab wQ (.cells #[.int .i64 (-1),.int .i64 ((ns:Int) - 1),.int .i64 (ns:Int)] 3));refine hK1.out _ _ (KS.out _ _ hB) ?_;obtain ⟨wR,hWn⟩:∃ W,W = wQ.alloc (.cells #[.int .i64 (-1),.int .i64 ((ns:Int) - 1),.int .i64 (ns:Int)] 3):=⟨_,rfl⟩;obtain ⟨lb,hlb⟩:∃ b,b = wQ.heap.size:=⟨_,rfl⟩;rw [← hWn] at hB hrow ⊢;rw [← hlb] at hrow hltb ⊢;clear hK1 K1 hWn hlb
     try simp only [Act.put,sA,sB,sC]
     have hyn:y < n1:=by omega
     have hyI:(y:Int) < (n1:Int):=by omega
     have hy3:(y2:Int) < 3:=by omega
     obtain ⟨g1,cur1,x1,rfl,hlg1,hg1,zc⟩:=hB.sw hyn
     obtain ⟨lv,zl⟩:∃ lv:Int,wR.cell? ⟨lb,y2,none⟩ = some (.int .i64 lv):=by
      obtain rfl | rfl | rfl:y2 = 0 ∨ y2 = 1 ∨ y2 = 2:=by omega
      ·exact ⟨_,hrow.cell (i:=0) (by omega)⟩
      ·exact ⟨_,hrow.cell (i:=1) (by omega)⟩
      ·exact ⟨_,hrow.cell (i:=2) (by omega)⟩
     have fz:wR.frozen? ⟨g1,y,none⟩ = false:=by simp [World.frozen?,hg1]
     have hB6:=hB.setI hg1 (by decide) hlg1 y (u:=.int .i64 lv) (.inl ⟨.inl rfl,_,rfl⟩);have hS:=KS.out _ _ hB;have hS6:=KS.out _ _ hB6;clear hrow hg1 hy hy2 hB;refine tfG At.z.s.s.s.s.s.s.s.s.s.s.s.s.s.s.s (by kernel_rfl) (fun _ _ _ h=>h) (by kernel_rfl) (by intro _ s; (try dsimp only at s); go_simp; try with_reducible rfl) hS ?_
     try simp only [Act.put,sA,sB,sC]
     refine zbk (i:=16) At.z.s.s.s.s.s.s.s.s.s.s.s.s.s.s.s.s (by kernel_rfl) (fun K1 hK1=>?_);go_simp;refine hK1.out _ _ hS ?_;clear hK1 K1 zl
     try simp only [Act.put,sA,sB,sC]
     refine zbk (i:=17) At.z.s.s.s.s.s.s.s.s.s.s.s.s.s.s.s.s.s (by kernel_rfl) (fun K1 hK1=>?_);go_simp;refine hK1.out _ _ hS ?_;clear hK1 K1 hS
     try simp only [Act.put,sA,sB,sC]
     refine zbk (i:=18) At.z.s.s.s.s.s.s.s.s.s.s.s.s.s.s.s.s.s.s (by kernel_rfl) (fun K1 hK1=>?_);go_simp;refine hK1.out _ _ hS6 ?_;obtain ⟨W6,hW6⟩:∃ W,W = wR.setCell ⟨g1,y,none⟩ (.int .i64 lv):=⟨_,rfl⟩;rw [← hW6] at hB6 ⊢;clear hK1 K1 hW6 fz zc hS6
     try simp only [Act.put,sA,sB,sC]
     refine zlu (by kernel_rfl) ?_;obtain ⟨gR,hR⟩:=hB6.res;have r0:=hR.cell (i:=0) (by show 0 < 5; omega);have k0:=hR.frozen 0;have r1:=hR.cell (i:=1) (by show 1 < 5; omega);have k1:=hR.frozen 1;have r2:=hR.cell (i:=2) (by show 2 < 5; omega);have k2:=hR.frozen 2;have r3:=hR.cell (i:=3) (by show 3 < 5; omega);have k3:=hR.frozen 3;have r4:=hR.cell (i:=4) (by show 4 < 5; omega);have k4:=hR.frozen 4;have e0:=hB6.box.cell (i:=0) (by show 0 < 5; omega);have e1:=hB6.box.cell (i:=1) (by show 1 < 5; omega);have e2:=hB6.box.cell (i:=2) (by show 2 < 5; omega);have e3:=hB6.box.cell (i:=3) (by show 3 < 5; omega);have e4:=hB6.box.cell (i:=4) (by show 4 < 5; omega);have HBB:=zaa hB6;clear hB6 hR;go_wp2;refine bodyPost_ret (v:=.agg #[.int .i64 ((ns:Int):Int),.slice (some ⟨g1,0,none⟩) n1 c1,.slice (some ⟨gy,0,none⟩) n2 c2,.slice a3 n3 c3,.int .i64 hold]) (by simp [results,Tryz.results73,go_sem,r0,r1,r2,r3,r4]) rfl ?_;exact zwu HBB.out (by omega) (by omega) (by omega)
   ·go_simp;have hltb:cb < wD.heap.size:=hB.cur.lt;have hrow:(wD.alloc (.cells #[.int .i64 (-1),.int .i64 ((ns:Int) - 1),.int .i64 (ns:Int)] 3)).rowIs wD.heap.size 3 3 (fun i=>(#[.int .i64 (-1),.int .i64 ((ns:Int) - 1),.int .i64 (ns:Int)]:Array Value)[i]!):=zak wD 3 #[.int .i64 (-1),.int .i64 ((ns:Int) - 1),.int .i64 (ns:Int)];replace hB:=hB.call (zab wD (.cells #[.int .i64 (-1),.int .i64 ((ns:Int) - 1),.int .i64 (ns:Int)] 3));refine hK1.out _ _ (KS.out _ _ hB) ?_;obtain ⟨wP,hWn⟩:∃ W,W = wD.alloc (.cells #[.int .i64 (-1),.int .i64 ((ns:Int) - 1),.int .i64 (ns:Int)] 3):=⟨_,rfl⟩;obtain ⟨lb,hlb⟩:∃ b,b = wD.heap.size:=⟨_,rfl⟩;rw [← hWn] at hB hrow ⊢;rw [← hlb] at hrow hltb ⊢;clear hK1 K1 hWn hlb
    try simp only [Act.put,sA,sB,sC]
    refine zbk (i:=6) At.z.s.s.s.s.s.s (by kernel_rfl) (fun K1 hK1=>?_);go_simp;refine (zap cb (K + 2 + 2) n1 wP hB.cur (by omega) (by omega)).mono ?_;rintro e wQ ⟨y,rfl,hy,hcq,hBq⟩;replace hB:=hB.pick hBq hcq;replace hrow:=hBq.row hrow (show lb ≠ cb by omega);refine hK1.out _ _ (KS.out _ _ hB) ?_;clear hK1 K1 hcq hBq
    try simp only [Act.put,sA,sB,sC]
    refine zbk (i:=14) At.z.s.s.s.s.s.s.s.s.s.s.s.s.s.s (by kernel_rfl) (fun K1 hK1=>?_);go_simp;refine (zap cb (K + 2 + 2 + 2) 3 wQ hB.cur (by omega) (by omega)).mono ?_;rintro e wR ⟨y2,rfl,hy2,hcq,hBq⟩;replace hB:=hB.pick hBq hcq;replace hrow:=hBq.row hrow (show lb ≠ cb by omega);refine hK1.out _ _ (KS.out _ _ hB) ?_;clear hK1 K1 hcq hBq
    try simp only [Act.put,sA,sB,sC]
    have hyn:y < n1:=by omega
    have hyI:(y:Int) < (n1:Int):=by omega
    have hy3:(y2:Int) < 3:=by omega
    obtain ⟨g1,cur1,x1,rfl,hlg1,hg1,zc⟩:=hB.sw hyn
    obtain ⟨lv,zl⟩:∃ lv:Int,wR.cell? ⟨lb,y2,none⟩ = some (.int .i64 lv):=by
     obtain rfl | rfl | rfl:y2 = 0 ∨ y2 = 1 ∨ y2 = 2:=by omega
     ·exact ⟨_,hrow.cell (i:=0) (by omega)⟩
     ·exact ⟨_,hrow.cell (i:=1) (by omega)⟩
     ·exact ⟨_,hrow.cell (i:=2) (by omega)⟩
    have fz:wR.frozen? ⟨g1,y,none⟩ = false:=by simp [World.frozen?,hg1]
    have hB6:=hB.setI hg1 (by decide) hlg1 y (u:=.int .i64 lv) (.inl ⟨.inl rfl,_,rfl⟩);have hS:=KS.out _ _ hB;have hS6:=KS.out _ _ hB6;clear hrow hg1 hy hy2 hB;refine tfG At.z.s.s.s.s.s.s.s.s.s.s.s.s.s.s.s (by kernel_rfl) (fun _ _ _ h=>h) (by kernel_rfl) (by intro _ s; (try dsimp only at s); go_simp; try with_reducible rfl) hS ?_
    try simp only [Act.put,sA,sB,sC]
    refine zbk (i:=16) At.z.s.s.s.s.s.s.s.s.s.s.s.s.s.s.s.s (by kernel_rfl) (fun K1 hK1=>?_);go_simp;refine hK1.out _ _ hS ?_;clear hK1 K1 zl
    try simp only [Act.put,sA,sB,sC]
    refine zbk (i:=17) At.z.s.s.s.s.s.s.s.s.s.s.s.s.s.s.s.s.s (by kernel_rfl) (fun K1 hK1=>?_);go_simp;refine hK1.out _ _ hS ?_;clear hK1 K1 hS
    try simp only [Act.put,sA,sB,sC]
    refine zbk (i:=18) At.z.s.s.s.s.s.s.s.s.s.s.s.s.s.s.s.s.s.s (by kernel_rfl) (fun K1 hK1=>?_);go_simp;refine hK1.out _ _ hS6 ?_;obtain ⟨W6,hW6⟩:∃ W,W = wR.setCell ⟨g1,y,none⟩ (.int .i64 lv):=⟨_,rfl⟩;rw [← hW6] at hB6 ⊢;clear hK1 K1 hW6 fz zc hS6
    try simp only [Act.put,sA,sB,sC]
    refine zlu (by kernel_rfl) ?_;obtain ⟨gR,hR⟩:=hB6.res;have r0:=hR.cell (i:=0) (by show 0 < 5; omega);have k0:=hR.frozen 0;have r1:=hR.cell (i:=1) (by show 1 < 5; omega);have k1:=hR.frozen 1;have r2:=hR.cell (i:=2) (by show 2 < 5; omega);have k2:=hR.frozen 2;have r3:=hR.cell (i:=3) (by show 3 < 5; omega);have k3:=hR.frozen 3;have r4:=hR.cell (i:=4) (by show 4 < 5; omega);have k4:=hR.frozen 4;have e0:=hB6.box.cell (i:=0) (by show 0 < 5; omega);have e1:=hB6.box.cell (i:=1) (by show 1 < 5; omega);have e2:=hB6.box.cell (i:=2) (by show 2 < 5; omega);have e3:=hB6.box.cell (i:=3) (by show 3 < 5; omega);have e4:=hB6.box.cell (i:=4) (by show 4 < 5; omega);have HBB:=zaa hB6;clear hB6 hR;go_wp2;refine bodyPost_ret (v:=.agg #[.int .i64 ((ns:Int):Int),.slice (some ⟨g1,0,none⟩) n1 c1,.slice (some ⟨gy,0,none⟩) n2 c2,.slice a3 n3 c3,.int .i64 hold]) (by simp [results,Tryz.results73,go_sem,r0,r1,r2,r3,r4]) rfl ?_;exact zwu HBB.out (by omega) (by omega) (by omega)
  ·obtain ⟨l,o,hl10,hls⟩:=HB3.out.spl.ways
   have hln:l.length = n2:=by obtain ⟨a,c,e⟩:=zag o.own; cases e; rfl
   obtain ⟨q,hq⟩:=zb4 l (show i < l.length by omega);obtain ⟨g,cap,eg,hob,hlg,⟨cur,hcur⟩,hfz,z0,z1,z2,z3,z4⟩:=zxr o hq
   cases hob
   have hw:=o.ways q (List.mem_of_getElem? hq);obtain ⟨b1,b2,b3,b4,b5⟩:=hls q (List.mem_of_getElem? hq);have hn:WayO w2 lo (zxk q.1 0 (.slice none 0 0)) ⟨[],q.2.lies,q.2.flanks,q.2.over,q.2.near⟩:=⟨World.ownsRow_nil _ _ _ _,hw.l1,hw.l2,hw.o3,hw.n4⟩;have hsp:=HB3.out.spl.put o hl10 hls rfl (i:=i) (j:=0) (by omega) hq hn ⟨by show 0 ≤ _; omega,by show q.2.lies.length ≤ _; omega,by show q.2.flanks.length ≤ _; omega,by show q.2.over.length ≤ _; omega,by show q.2.near.length ≤ _; omega⟩;have hB4:SpB w cb lo (K + 2 + 2) (Kb + 1) (ns:Int) hold (w2.setCell ⟨gy,i * 5,none⟩ (.slice none 0 0)) (.slice a1 n1 c1) (.slice (some ⟨gy,0,none⟩) n2 c2) (.slice a3 n3 c3):=HB3.out.way hcur hlg hsp;have fz:=hfz (i * 5);obtain ⟨s0,t0,es⟩:=zag hw.s0;rw [es] at z0;clear o hln hq eg es hw hn hsp hls b1 b2 b3 b4 b5 hcur hfz z1 z2 z3 z4 HB3 hx
   go_upto_region 33 with fail
   obtain ⟨W4,hW4⟩:∃ W,W = w2.setCell ⟨gy,i * 5,none⟩ (.slice none 0 0):=⟨_,rfl⟩;rw [← hW4] at hB4 ⊢;clear hW4 fz z0;obtain ⟨gR,hR⟩:=hB4.res;have r0:=hR.cell (i:=0) (by show 0 < 5; omega);have k0:=hR.frozen 0;have r1:=hR.cell (i:=1) (by show 1 < 5; omega);have k1:=hR.frozen 1;have r2:=hR.cell (i:=2) (by show 2 < 5; omega);have k2:=hR.frozen 2;have r3:=hR.cell (i:=3) (by show 3 < 5; omega);have k3:=hR.frozen 3;have r4:=hR.cell (i:=4) (by show 4 < 5; omega);have k4:=hR.frozen 4;have e0:=hB4.box.cell (i:=0) (by show 0 < 5; omega);have e1:=hB4.box.cell (i:=1) (by show 1 < 5; omega);have e2:=hB4.box.cell (i:=2) (by show 2 < 5; omega);have e3:=hB4.box.cell (i:=3) (by show 3 < 5; omega);have e4:=hB4.box.cell (i:=4) (by show 4 < 5; omega);have HBB:=zaa hB4;clear hB4 hR;go_wp2;refine bodyPost_ret (v:=.agg #[.int .i64 ((ns:Int):Int),.slice a1 n1 c1,.slice (some ⟨gy,0,none⟩) n2 c2,.slice a3 n3 c3,.int .i64 hold]) (by simp [results,Tryz.results73,go_sem,r0,r1,r2,r3,r4]) rfl ?_;exact zwu HBB.out (by omega) (by omega) (by omega)
  ·obtain ⟨l,q,o,hl10,hls,hq,hw,hsm,⟨cur,hcur⟩,hlg,hfz,z0,z1,z2,z3,z4⟩:=HB3.out.at hin;obtain ⟨sv,tv,es⟩:=zag hw.s0;obtain ⟨mv,hmv⟩:∃ m,m = q.2.sections.length:=⟨_,rfl⟩;rw [← hmv] at es;rw [es] at z0
   have hmK:mv ≤ Kb:=by rw [hmv]; exact hsm.1
   have e0:=HB3.out.box.cell (i:=0) (by show 0 < 5; omega);have hks:∀ W:World,W.cell? ⟨w.heap.size,0,none⟩ = some (.int .i64 (ns:Int)) → W.cell? ⟨gy,i * 5,none⟩ = some (.slice sv mv tv) → (fun W:World=>W.cell? ⟨w.heap.size,0,none⟩ = some (.int .i64 (ns:Int)) ∧ W.cell? ⟨gy,i * 5,none⟩ = some (.slice sv mv tv)) W:=fun W a b=>⟨a,b⟩;have KS:=zaa hks;by_cases hm0:mv = 0
   ·subst hm0;have hB:=HB3.out;clear o hl10 hls hq hw hsm hcur hfz z1 z2 z3 z4 es hmv hks KS e0 HB3 hx
    go_upto_region 33 with fail
    clear z0;obtain ⟨gR,hR⟩:=hB.res;have r0:=hR.cell (i:=0) (by show 0 < 5; omega);have k0:=hR.frozen 0;have r1:=hR.cell (i:=1) (by show 1 < 5; omega);have k1:=hR.frozen 1;have r2:=hR.cell (i:=2) (by show 2 < 5; omega);have k2:=hR.frozen 2;have r3:=hR.cell (i:=3) (by show 3 < 5; omega);have k3:=hR.frozen 3;have r4:=hR.cell (i:=4) (by show 4 < 5; omega);have k4:=hR.frozen 4;have e0:=hB.box.cell (i:=0) (by show 0 < 5; omega);have e1:=hB.box.cell (i:=1) (by show 1 < 5; omega);have e2:=hB.box.cell (i:=2) (by show 2 < 5; omega);have e3:=hB.box.cell (i:=3) (by show 3 < 5; omega);have e4:=hB.box.cell (i:=4) (by show 4 < 5; omega);have HBB:=zaa hB;clear hB hR;go_wp2;refine bodyPost_ret (v:=.agg #[.int .i64 ((ns:Int):Int),.slice a1 n1 c1,.slice (some ⟨gy,0,none⟩) n2 c2,.slice a3 n3 c3,.int .i64 hold]) (by simp [results,Tryz.results73,go_sem,r0,r1,r2,r3,r4]) rfl ?_;exact zwu HBB.out (by omega) (by omega) (by omega)
   obtain ⟨gs,caps,ee,-,-,hcs⟩:=zc6 hw.s0 (by omega);obtain ⟨x0,hx0⟩:=zb4 q.2.sections (show 0 < q.2.sections.length by omega);have zx:w2.cell? ⟨gs,0,none⟩ = some (.int .i64 x0):=hcs 0 _ (by unfold zcg; rw [List.getElem?_map,hx0]; rfl)
   obtain rfl:sv = some ⟨gs,0,none⟩:=by rw [es] at ee; cases ee; rfl
   have hmp:(0:Int) < (mv:Int):=by omega
   clear ee hcs hx0;clear o hl10 hls hq hw hsm hcur hfz z1 z2 z3 z4 es hmv hks hx
   go_upto_region 18 with fail
   refine zwt (S:=fun W:World=>W.cell? ⟨w.heap.size,0,none⟩ = some (.int .i64 (ns:Int)) ∧ W.cell? ⟨gy,i * 5,none⟩ = some (.slice (some ⟨gs,0,none⟩) mv tv)) 15 16 (by kernel_rfl) (by kernel_rfl) (KS.out _ (ckc e0 (zaf _)) (ckc z0 (zaf _))) (fun hS=>?_);have hbd:=zaf w2;have hB:=HB3.out.call hbd;have c0:=ckc e0 hbd;have cj:=ckc z0 hbd;have zd:=ckc zx hbd;obtain ⟨wD,hwD⟩:∃ W,W = w2.drew:=⟨_,rfl⟩;rw [← hwD] at hS hB c0 cj zd ⊢;clear hwD HB3 e0 z0 zx
   iterate 9
    refine tkI (by rfl) (by kernel_rfl) (by exact fun _ _ _ h=>h) (by rfl) (by intro _ s; (try dsimp only at s); go_simp; try with_reducible rfl) hS ?_
    try simp only [Act.put,sA,sB,sC]
   refine zbk (i:=9) At.z.s.s.s.s.s.s.s.s.s (by kernel_rfl) (fun K1 hK1=>?_);go_simp;refine hK1.out _ _ hS ?_;clear hK1 K1
   try simp only [Act.put,sA,sB,sC]
   refine zbk (i:=10) At.z.s.s.s.s.s.s.s.s.s.s (by kernel_rfl) (fun K1 hK1=>?_);go_simp;refine hK1.out _ _ hS ?_;clear hK1 K1
   try simp only [Act.put,sA,sB,sC]
   clear zd;clear hS;refine zbk (i:=11) At.z.s.s.s.s.s.s.s.s.s.s.s (by kernel_rfl) (fun K1 hK1=>?_);go_simp;have hbn:=zab wD (.cells #[.int .i64 x0] 3);have SRC:=zaa (zhj wD 3 #[.int .i64 x0]);replace hB:=hB.call hbn;replace c0:=ckc c0 hbn;replace cj:=ckc cj hbn;refine hK1.out _ _ (KS.out _ c0 cj) ?_;obtain ⟨w4,hw4⟩:∃ W,W = wD.alloc (.cells #[.int .i64 x0] 3):=⟨_,rfl⟩;rw [← hw4] at hB c0 cj SRC ⊢;clear hK1 K1 hbn hw4
   try simp only [Act.put,sA,sB,sC]
   obtain ⟨l,q,o,hl10,hls,hq,hw,hsm,⟨cur,hcur⟩,-,hfz,z0,z1,z2,z3,z4⟩:=hB.at hin;have es:q.1.v0 = .slice (some ⟨gs,0,none⟩) mv tv:=Option.some.inj (z0.symm.trans cj);have how:=hw.s0;rw [es] at how
   have hml:q.2.sections.length = mv:=by obtain ⟨a,c,e⟩:=zag how; cases e; rfl
   rw [hml] at how;have hz4:lo ≤ w4.heap.size:=Nat.le_trans hlo hB.but.size;clear o hl10 hls hq hw hsm hfz z0 z1 z2 z3 z4 es;refine zbk (i:=12) At.z.s.s.s.s.s.s.s.s.s.s.s.s (by kernel_rfl) (fun K1 hK1=>?_);refine zxc _ _ 23 rfl lo 3 (.int .i64 0) 1 8 Tryz.underlying23 Tryz.infoInt rfl (by decide) (.slice (some ⟨gs,0,none⟩) mv tv) mv (zcg q.2.sections) rfl how ⟨wD.heap.size,0,none⟩ 1 1 [.int .i64 x0] rfl rfl SRC.out (zxy _) (zxl _) (by unfold maxLen; omega) (by omega) hz4 ?_;intro v' wE hownE hgr hT;obtain ⟨a6,c6,rfl⟩:=zag hownE;have hBE:=hB.grown how (by decide) hT hgr;have c0E:=hBE.box.cell (i:=0) (by show 0 < 5; omega);have cjE:=hT.way hcur cj;have hS:=KS.out _ c0E cjE;refine hK1.out _ _ hS ?_;obtain ⟨l2,q2,o2,hl2,hls2,hq2,hw2,hsm2,⟨cur2,hcur2⟩,-,hfz2,-,-,-,-,-⟩:=hBE.at hin
   have hnl:(q.2.sections ++ [x0]).length = mv + 1:=by rw [List.length_append,hml]; rfl
   have hownF:wE.ownsRow lo 3 1 (.slice a6 (mv + 1) c6) (q.2.sections ++ [x0]).length (zcg (q.2.sections ++ [x0])):=by rw [zc4,hnl]; exact hownE
   have hsp:=hBE.spl.put o2 hl2 hls2 rfl (i:=i) (j:=0) (by omega) hq2 (u:=.slice a6 (mv + 1) c6) (d':=⟨q.2.sections ++ [x0],q2.2.lies,q2.2.flanks,q2.2.over,q2.2.near⟩) ⟨hownF,hw2.l1,hw2.l2,hw2.o3,hw2.n4⟩ ⟨by show (q.2.sections ++ [x0]).length ≤ Kb + 1; rw [hnl]; omega,Nat.le_succ_of_le hsm2.2.1,Nat.le_succ_of_le hsm2.2.2.1,Nat.le_succ_of_le hsm2.2.2.2.1,Nat.le_succ_of_le hsm2.2.2.2.2⟩;have hB6:SpB w cb lo _ (Kb + 1) (ns:Int) hold (wE.setCell ⟨gy,i * 5,none⟩ (.slice a6 (mv + 1) c6)) (.slice a1 n1 c1) (.slice (some ⟨gy,0,none⟩) n2 c2) (.slice a3 n3 c3):=hBE.way hcur2 hlg hsp;have fz:=hfz2 (i * 5);clear hK1 K1 how hownE hownF hgr hT hBE c0E c0 cj hB o2 hl2 hls2 hq2 hw2 hsm2 hcur hcur2 hfz2 hsp SRC KS hnl hml
   try simp only [Act.put,sA,sB,sC]
   refine zbk (i:=13) At.z.s.s.s.s.s.s.s.s.s.s.s.s.s (by kernel_rfl) (fun K1 hK1=>?_);go_simp;refine hK1.out _ _ hS ?_;clear hK1 K1
   try simp only [Act.put,sA,sB,sC]
   refine zbk (i:=14) At.z.s.s.s.s.s.s.s.s.s.s.s.s.s.s (by kernel_rfl) (fun K1 hK1=>?_);go_simp;refine hK1.out _ _ hS ?_;clear hK1 K1
   try simp only [Act.put,sA,sB,sC]
   clear hS;refine zf1 At.z.s.s.s.s.s.s.s.s.s.s.s.s.s.s.s (by kernel_rfl) (by kernel_rfl) (fun K1 hK1=>?_);go_simp;refine hK1.out _ _ ?_;obtain ⟨W6,hW6⟩:∃ W,W = wE.setCell ⟨gy,i * 5,none⟩ (.slice a6 (mv + 1) c6):=⟨_,rfl⟩;rw [← hW6] at hB6 ⊢;clear hK1 K1 hW6 fz cjE
   try simp only [Act.put,sA,sB,sC]
   obtain ⟨gR,hR⟩:=hB6.res;have r0:=hR.cell (i:=0) (by show 0 < 5; omega);have k0:=hR.frozen 0;have r1:=hR.cell (i:=1) (by show 1 < 5; omega);have k1:=hR.frozen 1;have r2:=hR.cell (i:=2) (by show 2 < 5; omega);have k2:=hR.frozen 2;have r3:=hR.cell (i:=3) (by show 3 < 5; omega);have k3:=hR.frozen 3;have r4:=hR.cell (i:=4) (by show 4 < 5; omega);have k4:=hR.frozen 4;have e0:=hB6.box.cell (i:=0) (by show 0 < 5; omega);have e1:=hB6.box.cell (i:=1) (by show 1 < 5; omega);have e2:=hB6.box.cell (i:=2) (by show 2 < 5; omega);have e3:=hB6.box.cell (i:=3) (by show 3 < 5; omega);have e4:=hB6.box.cell (i:=4) (by show 4 < 5; omega);have HBB:=zaa hB6;clear hB6 hR;go_wp2;refine bodyPost_ret (v:=.agg #[.int .i64 ((ns:Int):Int),.slice a1 n1 c1,.slice (some ⟨gy,0,none⟩) n2 c2,.slice a3 n3 c3,.int .i64 hold]) (by simp [results,Tryz.results73,go_sem,r0,r1,r2,r3,r4]) rfl ?_;exact zwu HBB.out (by omega) (by omega) (by omega)
  ·obtain ⟨l,q,o,hl10,hls,hq,hw,hsm,⟨cur,hcur⟩,hlg,hfz,z0,z1,z2,z3,z4⟩:=HB3.out.at hin;obtain ⟨sv,tv,es⟩:=zag hw.o3;obtain ⟨mv,hmv⟩:∃ m,m = q.2.over.length:=⟨_,rfl⟩;rw [← hmv] at es;rw [es] at z3
   have hmK:mv ≤ Kb:=by rw [hmv]; exact hsm.2.2.2.1
   have e0:=HB3.out.box.cell (i:=0) (by show 0 < 5; omega);have hks:∀ W:World,W.cell? ⟨w.heap.size,0,none⟩ = some (.int .i64 (ns:Int)) → W.cell? ⟨gy,i * 5 + 3,none⟩ = some (.slice sv mv tv) → (fun W:World=>W.cell? ⟨w.heap.size,0,none⟩ = some (.int .i64 (ns:Int)) ∧ W.cell? ⟨gy,i * 5 + 3,none⟩ = some (.slice sv mv tv)) W:=fun W a b=>⟨a,b⟩;have KS:=zaa hks;clear o hl10 hls hq hw hsm hcur hfz z0 z1 z2 z4 es hmv hks hx
   go_upto_region 20 with fail
   refine zwt (S:=fun W:World=>W.cell? ⟨w.heap.size,0,none⟩ = some (.int .i64 (ns:Int)) ∧ W.cell? ⟨gy,i * 5 + 3,none⟩ = some (.slice sv mv tv)) 14 15 (by kernel_rfl) (by kernel_rfl) (KS.out _ (ckc e0 (zaf _)) (ckc z3 (zaf _))) (fun hS=>?_);have hbd:=zaf w2;have hB:=HB3.out.call hbd;have c0:=ckc e0 hbd;have cj:=ckc z3 hbd;obtain ⟨wD,hwD⟩:∃ W,W = w2.drew:=⟨_,rfl⟩;rw [← hwD] at hS hB c0 cj ⊢;clear hwD HB3 e0 z3
   iterate 9
    refine tkI (by rfl) (by kernel_rfl) (by exact fun _ _ _ h=>h) (by rfl) (by intro _ s; (try dsimp only at s); go_simp; try with_reducible rfl) hS ?_
    try simp only [Act.put,sA,sB,sC]
   rw [show IntKind.i64.wrap ((ns:Int) + 1) = ((ns + 1:Nat):Int) from (IntWalk.i64_in _ ⟨by omega,by omega⟩).trans (by omega)];clear hS;refine zbk (i:=9) At.z.s.s.s.s.s.s.s.s.s (by kernel_rfl) (fun K1 hK1=>?_);go_simp;refine (zap cb (K + 2 + 2) (ns + 1) wD hB.cur (by omega) (by omega)).mono ?_;rintro e w3 ⟨y,rfl,hy,hc3,hB3⟩;replace hB:=hB.pick hB3 hc3;replace c0:=zwv hB3 (show w.heap.size ≠ cb by omega) c0;replace cj:=zwv hB3 (show gy ≠ cb by omega) cj;have hS:=KS.out _ c0 cj;refine hK1.out _ _ hS ?_;clear hK1 K1 hc3 hB3
   try simp only [Act.put,sA,sB,sC]
   clear hS;refine zbk (i:=10) At.z.s.s.s.s.s.s.s.s.s.s (by kernel_rfl) (fun K1 hK1=>?_);go_simp;have hbn:=zab w3 (.cells #[.int .i64 (y:Int)] 3);have SRC:=zaa (zhj w3 3 #[.int .i64 (y:Int)]);replace hB:=hB.call hbn;replace c0:=ckc c0 hbn;replace cj:=ckc cj hbn;refine hK1.out _ _ (KS.out _ c0 cj) ?_;obtain ⟨w4,hw4⟩:∃ W,W = w3.alloc (.cells #[.int .i64 (y:Int)] 3):=⟨_,rfl⟩;rw [← hw4] at hB c0 cj SRC ⊢;clear hK1 K1 hbn hw4
   try simp only [Act.put,sA,sB,sC]
   obtain ⟨l,q,o,hl10,hls,hq,hw,hsm,⟨cur,hcur⟩,-,hfz,z0,z1,z2,z3,z4⟩:=hB.at hin;have es:q.1.v3 = .slice sv mv tv:=Option.some.inj (z3.symm.trans cj);have how:=hw.o3;rw [es] at how
   have hml:q.2.over.length = mv:=by obtain ⟨a,c,e⟩:=zag how; cases e; rfl
   rw [hml] at how;have hz4:lo ≤ w4.heap.size:=Nat.le_trans hlo hB.but.size;clear o hl10 hls hq hw hsm hfz z0 z1 z2 z3 z4 es;refine zbk (i:=11) At.z.s.s.s.s.s.s.s.s.s.s.s (by kernel_rfl) (fun K1 hK1=>?_);refine zxc _ _ 23 rfl lo 3 (.int .i64 0) 1 8 Tryz.underlying23 Tryz.infoInt rfl (by decide) (.slice sv mv tv) mv (zcg q.2.over) rfl how ⟨w3.heap.size,0,none⟩ 1 1 [.int .i64 (y:Int)] rfl rfl SRC.out (zxy _) (zxl _) (by unfold maxLen; omega) (by omega) hz4 ?_;intro v' wE hownE hgr hT;obtain ⟨a6,c6,rfl⟩:=zag hownE;have hBE:=hB.grown how (by decide) hT hgr;have c0E:=hBE.box.cell (i:=0) (by show 0 < 5; omega);have cjE:=hT.way hcur cj;have hS:=KS.out _ c0E cjE;refine hK1.out _ _ hS ?_;obtain ⟨l2,q2,o2,hl2,hls2,hq2,hw2,hsm2,⟨cur2,hcur2⟩,-,hfz2,-,-,-,-,-⟩:=hBE.at hin
   have hnl:(q.2.over ++ [(y:Int)]).length = mv + 1:=by rw [List.length_append,hml]; rfl
   have hownF:wE.ownsRow lo 3 1 (.slice a6 (mv + 1) c6) (q.2.over ++ [(y:Int)]).length (zcg (q.2.over ++ [(y:Int)])):=by rw [zc4,hnl]; exact hownE
   have hsp:=hBE.spl.put o2 hl2 hls2 rfl (i:=i) (j:=3) (by omega) hq2 (u:=.slice a6 (mv + 1) c6) (d':=⟨q2.2.sections,q2.2.lies,q2.2.flanks,q.2.over ++ [(y:Int)],q2.2.near⟩) ⟨hw2.s0,hw2.l1,hw2.l2,hownF,hw2.n4⟩ ⟨Nat.le_succ_of_le hsm2.1,Nat.le_succ_of_le hsm2.2.1,Nat.le_succ_of_le hsm2.2.2.1,by show (q.2.over ++ [(y:Int)]).length ≤ Kb + 1; rw [hnl]; omega,Nat.le_succ_of_le hsm2.2.2.2.2⟩;have hB6:SpB w cb lo _ (Kb + 1) (ns:Int) hold (wE.setCell ⟨gy,i * 5 + 3,none⟩ (.slice a6 (mv + 1) c6)) (.slice a1 n1 c1) (.slice (some ⟨gy,0,none⟩) n2 c2) (.slice a3 n3 c3):=hBE.way hcur2 hlg hsp;have fz:=hfz2 (i * 5 + 3);clear hK1 K1 how hownE hownF hgr hT hBE c0E c0 cj hB o2 hl2 hls2 hq2 hw2 hsm2 hcur hcur2 hfz2 hsp SRC KS hnl hml
   try simp only [Act.put,sA,sB,sC]
   refine zbk (i:=12) At.z.s.s.s.s.s.s.s.s.s.s.s.s (by kernel_rfl) (fun K1 hK1=>?_);go_simp;refine hK1.out _ _ hS ?_;clear hK1 K1
   try simp only [Act.put,sA,sB,sC]
   refine zbk (i:=13) At.z.s.s.s.s.s.s.s.s.s.s.s.s.s (by kernel_rfl) (fun K1 hK1=>?_);go_simp;refine hK1.out _ _ hS ?_;clear hK1 K1
   try simp only [Act.put,sA,sB,sC]
   clear hS;refine zf1 At.z.s.s.s.s.s.s.s.s.s.s.s.s.s.s (by kernel_rfl) (by kernel_rfl) (fun K1 hK1=>?_);go_simp;refine hK1.out _ _ ?_;obtain ⟨W6,hW6⟩:∃ W,W = wE.setCell ⟨gy,i * 5 + 3,none⟩ (.slice a6 (mv + 1) c6):=⟨_,rfl⟩;rw [← hW6] at hB6 ⊢;clear hK1 K1 hW6 fz cjE
   try simp only [Act.put,sA,sB,sC]
   obtain ⟨gR,hR⟩:=hB6.res;have r0:=hR.cell (i:=0) (by show 0 < 5; omega);have k0:=hR.frozen 0;have r1:=hR.cell (i:=1) (by show 1 < 5; omega);have k1:=hR.frozen 1;have r2:=hR.cell (i:=2) (by show 2 < 5; omega);have k2:=hR.frozen 2;have r3:=hR.cell (i:=3) (by show 3 < 5; omega);have k3:=hR.frozen 3;have r4:=hR.cell (i:=4) (by show 4 < 5; omega);have k4:=hR.frozen 4;have e0:=hB6.box.cell (i:=0) (by show 0 < 5; omega);have e1:=hB6.box.cell (i:=1) (by show 1 < 5; omega);have e2:=hB6.box.cell (i:=2) (by show 2 < 5; omega);have e3:=hB6.box.cell (i:=3) (by show 3 < 5; omega);have e4:=hB6.box.cell (i:=4) (by show 4 < 5; omega);have HBB:=zaa hB6;clear hB6 hR;go_wp2;refine bodyPost_ret (v:=.agg #[.int .i64 ((ns:Int):Int),.slice a1 n1 c1,.slice (some ⟨gy,0,none⟩) n2 c2,.slice a3 n3 c3,.int .i64 hold]) (by simp [results,Tryz.results73,go_sem,r0,r1,r2,r3,r4]) rfl ?_;exact zwu HBB.out (by omega) (by omega) (by omega)
  ·obtain ⟨l,q,o,hl10,hls,hq,hw,hsm,⟨cur,hcur⟩,hlg,hfz,z0,z1,z2,z3,z4⟩:=HB3.out.at hin;obtain ⟨sv,tv,es⟩:=zag hw.l2;obtain ⟨mv,hmv⟩:∃ m,m = q.2.flanks.length:=⟨_,rfl⟩;rw [← hmv] at es;rw [es] at z2
   have hmK:mv ≤ Kb:=by rw [hmv]; exact hsm.2.2.1
   have e0:=HB3.out.box.cell (i:=0) (by show 0 < 5; omega);have hks:∀ W:World,W.cell? ⟨w.heap.size,0,none⟩ = some (.int .i64 (ns:Int)) → W.cell? ⟨gy,i * 5 + 2,none⟩ = some (.slice sv mv tv) → (fun W:World=>W.cell? ⟨w.heap.size,0,none⟩ = some (.int .i64 (ns:Int)) ∧ W.cell? ⟨gy,i * 5 + 2,none⟩ = some (.slice sv mv tv)) W:=fun W a b=>⟨a,b⟩;have KS:=zaa hks;clear o hl10 hls hq hw hsm hcur hfz z0 z1 z3 z4 es hmv hks hx
   go_upto_region 22 with fail
   refine zwt (S:=fun W:World=>W.cell? ⟨w.heap.size,0,none⟩ = some (.int .i64 (ns:Int)) ∧ W.cell? ⟨gy,i * 5 + 2,none⟩ = some (.slice sv mv tv)) 14 15 (by kernel_rfl) (by kernel_rfl) (KS.out _ (ckc e0 (zaf _)) (ckc z2 (zaf _))) (fun hS=>?_);have hbd:=zaf w2;have hB:=HB3.out.call hbd;have c0:=ckc e0 hbd;have cj:=ckc z2 hbd;obtain ⟨wD,hwD⟩:∃ W,W = w2.drew:=⟨_,rfl⟩;rw [← hwD] at hS hB c0 cj ⊢;clear hwD HB3 e0 z2
   iterate 6
    refine tkI (by rfl) (by kernel_rfl) (by exact fun _ _ _ h=>h) (by rfl) (by intro _ s; (try dsimp only at s); go_simp; try with_reducible rfl) hS ?_
    try simp only [Act.put,sA,sB,sC]
   refine tkL At.z.s.s.s.s.s.s.s (by kernel_rfl) (fun _ _ _ h=>h) rfl (by intro _ s; (try dsimp only at s); go_simp; try with_reducible rfl) hS ?_
   try simp only [Act.put,sA,sB,sC]
   clear hS;refine zbk (i:=6) At.z.s.s.s.s.s.s (by kernel_rfl) (fun K1 hK1=>?_);go_simp;refine (zap cb (K + 2 + 2) 4 wD hB.cur (by omega) (by omega)).mono ?_;rintro e w3 ⟨y,rfl,hy,hc3,hB3⟩;replace hB:=hB.pick hB3 hc3;replace c0:=zwv hB3 (show w.heap.size ≠ cb by omega) c0;replace cj:=zwv hB3 (show gy ≠ cb by omega) cj;have hS:=KS.out _ c0 cj;refine hK1.out _ _ hS ?_;clear hK1 K1 hc3 hB3
   try simp only [Act.put,sA,sB,sC]
   clear hS;refine zbk (i:=8) At.z.s.s.s.s.s.s.s.s (by kernel_rfl) (fun K1 hK1=>?_);go_simp;refine (zap cb (K + 2 + 2 + 2) 4 w3 hB.cur (by omega) (by omega)).mono ?_;rintro e w5 ⟨y2,rfl,hy2,hc3,hB3⟩;replace hB:=hB.pick hB3 hc3;replace c0:=zwv hB3 (show w.heap.size ≠ cb by omega) c0;replace cj:=zwv hB3 (show gy ≠ cb by omega) cj;have hS:=KS.out _ c0 cj;refine hK1.out _ _ hS ?_;clear hK1 K1 hc3 hB3
   try simp only [Act.put,sA,sB,sC]
   refine zbk (i:=9) At.z.s.s.s.s.s.s.s.s.s (by kernel_rfl) (fun K1 hK1=>?_);go_simp;refine hK1.out _ _ hS ?_;clear hK1 K1
   try simp only [Act.put,sA,sB,sC]
   clear hS;refine zbk (i:=10) At.z.s.s.s.s.s.s.s.s.s.s (by kernel_rfl) (fun K1 hK1=>?_);go_simp;have hbn:=zab w5 (.cells #[.int .i64 (y:Int),.int .i64 (y2:Int)] 58);have SRC:=zaa (zhj w5 58 #[.int .i64 (y:Int),.int .i64 (y2:Int)]);replace hB:=hB.call hbn;replace c0:=ckc c0 hbn;replace cj:=ckc cj hbn;refine hK1.out _ _ (KS.out _ c0 cj) ?_;obtain ⟨w4,hw4⟩:∃ W,W = w5.alloc (.cells #[.int .i64 (y:Int),.int .i64 (y2:Int)] 58):=⟨_,rfl⟩;rw [← hw4] at hB c0 cj SRC ⊢;clear hK1 K1 hbn hw4
   try simp only [Act.put,sA,sB,sC]
   obtain ⟨l,q,o,hl10,hls,hq,hw,hsm,⟨cur,hcur⟩,-,hfz,z0,z1,z2,z3,z4⟩:=hB.at hin;have es:q.1.v2 = .slice sv mv tv:=Option.some.inj (z2.symm.trans cj);have how:=hw.l2;rw [es] at how
   have hml:q.2.flanks.length = mv:=by obtain ⟨a,c,e⟩:=zag how; cases e; rfl
   rw [hml] at how;have hz4:lo ≤ w4.heap.size:=Nat.le_trans hlo hB.but.size;clear o hl10 hls hq hw hsm hfz z0 z1 z2 z3 z4 es;refine zbk (i:=11) At.z.s.s.s.s.s.s.s.s.s.s.s (by kernel_rfl) (fun K1 hK1=>?_);refine zxc _ _ 49 rfl lo 58 (.agg #[.int .i64 0,.int .i64 0]) 2 16 Tryz.underlying49 Tryz.infoLie rfl (by decide) (.slice sv mv tv) mv (zau q.2.flanks) rfl how ⟨w5.heap.size,0,none⟩ 1 1 [.int .i64 (y:Int),.int .i64 (y2:Int)] rfl rfl SRC.out (zr3 _ _) (zxx _ _) (by unfold maxLen; omega) (by omega) hz4 ?_;intro v' wE hownE hgr hT;obtain ⟨a6,c6,rfl⟩:=zag hownE;have hBE:=hB.grown how (by decide) hT hgr;have c0E:=hBE.box.cell (i:=0) (by show 0 < 5; omega);have cjE:=hT.way hcur cj;have hS:=KS.out _ c0E cjE;refine hK1.out _ _ hS ?_;obtain ⟨l2,q2,o2,hl2,hls2,hq2,hw2,hsm2,⟨cur2,hcur2⟩,-,hfz2,-,-,-,-,-⟩:=hBE.at hin
   have hnl:(q.2.flanks ++ [((y:Int),(y2:Int))]).length = mv + 1:=by rw [List.length_append,hml]; rfl
   have hownF:wE.ownsRow lo 58 2 (.slice a6 (mv + 1) c6) (q.2.flanks ++ [((y:Int),(y2:Int))]).length (zau (q.2.flanks ++ [((y:Int),(y2:Int))])):=by rw [ziz,hnl]; exact hownE
   have hsp:=hBE.spl.put o2 hl2 hls2 rfl (i:=i) (j:=2) (by omega) hq2 (u:=.slice a6 (mv + 1) c6) (d':=⟨q2.2.sections,q2.2.lies,q.2.flanks ++ [((y:Int),(y2:Int))],q2.2.over,q2.2.near⟩) ⟨hw2.s0,hw2.l1,hownF,hw2.o3,hw2.n4⟩ ⟨Nat.le_succ_of_le hsm2.1,Nat.le_succ_of_le hsm2.2.1,by show (q.2.flanks ++ [((y:Int),(y2:Int))]).length ≤ Kb + 1; rw [hnl]; omega,Nat.le_succ_of_le hsm2.2.2.2.1,Nat.le_succ_of_le hsm2.2.2.2.2⟩;have hB6:SpB w cb lo _ (Kb + 1) (ns:Int) hold (wE.setCell ⟨gy,i * 5 + 2,none⟩ (.slice a6 (mv + 1) c6)) (.slice a1 n1 c1) (.slice (some ⟨gy,0,none⟩) n2 c2) (.slice a3 n3 c3):=hBE.way hcur2 hlg hsp;have fz:=hfz2 (i * 5 + 2);clear hK1 K1 how hownE hownF hgr hT hBE c0E c0 cj hB o2 hl2 hls2 hq2 hw2 hsm2 hcur hcur2 hfz2 hsp SRC KS hnl hml
   try simp only [Act.put,sA,sB,sC]
   refine zbk (i:=12) At.z.s.s.s.s.s.s.s.s.s.s.s.s (by kernel_rfl) (fun K1 hK1=>?_);go_simp;refine hK1.out _ _ hS ?_;clear hK1 K1
   try simp only [Act.put,sA,sB,sC]
   refine zbk (i:=13) At.z.s.s.s.s.s.s.s.s.s.s.s.s.s (by kernel_rfl) (fun K1 hK1=>?_);go_simp;refine hK1.out _ _ hS ?_;clear hK1 K1
   try simp only [Act.put,sA,sB,sC]
   clear hS;refine zf1 At.z.s.s.s.s.s.s.s.s.s.s.s.s.s.s (by kernel_rfl) (by kernel_rfl) (fun K1 hK1=>?_);go_simp;refine hK1.out _ _ ?_;obtain ⟨W6,hW6⟩:∃ W,W = wE.setCell ⟨gy,i * 5 + 2,none⟩ (.slice a6 (mv + 1) c6):=⟨_,rfl⟩;rw [← hW6] at hB6 ⊢;clear hK1 K1 hW6 fz cjE
   try simp only [Act.put,sA,sB,sC]
   obtain ⟨gR,hR⟩:=hB6.res;have r0:=hR.cell (i:=0) (by show 0 < 5; omega);have k0:=hR.frozen 0;have r1:=hR.cell (i:=1) (by show 1 < 5; omega);have k1:=hR.frozen 1;have r2:=hR.cell (i:=2) (by show 2 < 5; omega);have k2:=hR.frozen 2;have r3:=hR.cell (i:=3) (by show 3 < 5; omega);have k3:=hR.frozen 3;have r4:=hR.cell (i:=4) (by show 4 < 5; omega);have k4:=hR.frozen 4;have e0:=hB6.box.cell (i:=0) (by show 0 < 5; omega);have e1:=hB6.box.cell (i:=1) (by show 1 < 5; omega);have e2:=hB6.box.cell (i:=2) (by show 2 < 5; omega);have e3:=hB6.box.cell (i:=3) (by show 3 < 5; omega);have e4:=hB6.box.cell (i:=4) (by show 4 < 5; omega);have HBB:=zaa hB6;clear hB6 hR;go_wp2;refine bodyPost_ret (v:=.agg #[.int .i64 ((ns:Int):Int),.slice a1 n1 c1,.slice (some ⟨gy,0,none⟩) n2 c2,.slice a3 n3 c3,.int .i64 hold]) (by simp [results,Tryz.results73,go_sem,r0,r1,r2,r3,r4]) rfl ?_;exact zwu HBB.out (by omega) (by omega) (by omega)
  ·have e3:=HB3.out.box.cell (i:=3) (by show 3 < 5; omega);have f3:=HB3.out.box.frozen 3;by_cases h3:n3 = 0
   ·subst h3;have hB:=HB3.out;clear HB3 hx f3
    go_upto_region 33 with fail
    clear e3;obtain ⟨gR,hR⟩:=hB.res;have r0:=hR.cell (i:=0) (by show 0 < 5; omega);have k0:=hR.frozen 0;have r1:=hR.cell (i:=1) (by show 1 < 5; omega);have k1:=hR.frozen 1;have r2:=hR.cell (i:=2) (by show 2 < 5; omega);have k2:=hR.frozen 2;have r3:=hR.cell (i:=3) (by show 3 < 5; omega);have k3:=hR.frozen 3;have r4:=hR.cell (i:=4) (by show 4 < 5; omega);have k4:=hR.frozen 4;have e0:=hB.box.cell (i:=0) (by show 0 < 5; omega);have e1:=hB.box.cell (i:=1) (by show 1 < 5; omega);have e2:=hB.box.cell (i:=2) (by show 2 < 5; omega);have e3:=hB.box.cell (i:=3) (by show 3 < 5; omega);have e4:=hB.box.cell (i:=4) (by show 4 < 5; omega);have HBB:=zaa hB;clear hB hR;go_wp2;refine bodyPost_ret (v:=.agg #[.int .i64 ((ns:Int):Int),.slice a1 n1 c1,.slice (some ⟨gy,0,none⟩) n2 c2,.slice a3 0 c3,.int .i64 hold]) (by simp [results,Tryz.results73,go_sem,r0,r1,r2,r3,r4]) rfl ?_;exact zwu HBB.out (by omega) (by omega) (by omega)
   have h3p:(0:Int) < (n3:Int):=by omega
   obtain ⟨g3,o3,-,-,-,rfl,-⟩:=HB3.out.row (r:=0) (by omega)
   have hnc:n3 ≤ c3:=by
    obtain ⟨l,q,-⟩:=HB3.out.spl.bars;obtain ⟨a,cap,e,h1,-⟩:=q.own
    cases e
    exact h1
   have h1c:(1:Int) ≤ (n3:Int):=by omega
   have h1d:(n3:Int) ≤ (c3:Int):=by omega
   have hB:=HB3.out.set3 (.slice (if c3 = 1 then some ⟨g3,o3,none⟩ else some ⟨g3,o3 + 1,none⟩) (n3 - 1) (c3 - 1)) fun W h=>h.bars1 (by omega);clear hx HB3
   go_upto_region 33 with fail
   obtain ⟨a4,ha4⟩:∃ a:Option Addr,a = (if c3 = 1 then some ⟨g3,o3,none⟩ else some ⟨g3,o3 + 1,none⟩):=⟨_,rfl⟩;rw [← ha4] at hB ⊢;obtain ⟨W4,hW4⟩:∃ W,W = w2.setCell ⟨w.heap.size,3,none⟩ (.slice a4 (n3 - 1) (c3 - 1)):=⟨_,rfl⟩;rw [← hW4] at hB ⊢;clear hW4 ha4 e3 f3;obtain ⟨gR,hR⟩:=hB.res;have r0:=hR.cell (i:=0) (by show 0 < 5; omega);have k0:=hR.frozen 0;have r1:=hR.cell (i:=1) (by show 1 < 5; omega);have k1:=hR.frozen 1;have r2:=hR.cell (i:=2) (by show 2 < 5; omega);have k2:=hR.frozen 2;have r3:=hR.cell (i:=3) (by show 3 < 5; omega);have k3:=hR.frozen 3;have r4:=hR.cell (i:=4) (by show 4 < 5; omega);have k4:=hR.frozen 4;have e0:=hB.box.cell (i:=0) (by show 0 < 5; omega);have e1:=hB.box.cell (i:=1) (by show 1 < 5; omega);have e2:=hB.box.cell (i:=2) (by show 2 < 5; omega);have e3:=hB.box.cell (i:=3) (by show 3 < 5; omega);have e4:=hB.box.cell (i:=4) (by show 4 < 5; omega);have HBB:=zaa hB;clear hB hR;go_wp2;refine bodyPost_ret (v:=.agg #[.int .i64 ((ns:Int):Int),.slice a1 n1 c1,.slice (some ⟨gy,0,none⟩) n2 c2,.slice a4 (n3 - 1) (c3 - 1),.int .i64 hold]) (by simp [results,Tryz.results73,go_sem,r0,r1,r2,r3,r4]) rfl ?_;exact zwu HBB.out (by omega) (by omega) (by omega)
  ·have e3:=HB3.out.box.cell (i:=3) (by show 3 < 5; omega);by_cases h3:n3 = 0
   ·subst h3;have hB:=HB3.out;clear HB3 hx
    go_upto_region 28 with fail
    clear e3;obtain ⟨gR,hR⟩:=hB.res;have r0:=hR.cell (i:=0) (by show 0 < 5; omega);have k0:=hR.frozen 0;have r1:=hR.cell (i:=1) (by show 1 < 5; omega);have k1:=hR.frozen 1;have r2:=hR.cell (i:=2) (by show 2 < 5; omega);have k2:=hR.frozen 2;have r3:=hR.cell (i:=3) (by show 3 < 5; omega);have k3:=hR.frozen 3;have r4:=hR.cell (i:=4) (by show 4 < 5; omega);have k4:=hR.frozen 4;have e0:=hB.box.cell (i:=0) (by show 0 < 5; omega);have e1:=hB.box.cell (i:=1) (by show 1 < 5; omega);have e2:=hB.box.cell (i:=2) (by show 2 < 5; omega);have e3:=hB.box.cell (i:=3) (by show 3 < 5; omega);have e4:=hB.box.cell (i:=4) (by show 4 < 5; omega);have HBB:=zaa hB;clear hB hR;go_wp2;refine bodyPost_ret (v:=.agg #[.int .i64 ((ns:Int):Int),.slice a1 n1 c1,.slice (some ⟨gy,0,none⟩) n2 c2,.slice a3 0 c3,.int .i64 hold]) (by simp [results,Tryz.results73,go_sem,r0,r1,r2,r3,r4]) rfl ?_;exact zwu HBB.out (by omega) (by omega) (by omega)
   have h3b:((n3:Int) == 0) = false:=by simp; omega
   have HCP:=zaa (zap cb (K + 2 + 2) n3 w2 HB3.out.cur (by omega) (by omega));clear hx
   go_wp2_with fail
   refine HCP.out.mono ?_;rintro e w3 ⟨r,rfl,hr,hc3,hB3⟩;have hB:=HB3.out.pick hB3 hc3
   have hrn:r < n3:=by omega
   have hrI:(r:Int) < (n3:Int):=by omega
   obtain ⟨g3,o3,sr,nr,tr,rfl,hlg3,hnr,yc,hel⟩:=hB.row hrn;clear HCP HB3 hc3 hB3 e3 h3b hr;have e3:=hB.box.cell (i:=3) (by show 3 < 5; omega);by_cases hz:nr = 0
   ·subst hz;have HBB0:=zaa hB;clear hB hel
    go_upto_region 33 with fail
    clear e3 yc;have hB:=HBB0.out;clear HBB0;obtain ⟨gR,hR⟩:=hB.res;have r0:=hR.cell (i:=0) (by show 0 < 5; omega);have k0:=hR.frozen 0;have r1:=hR.cell (i:=1) (by show 1 < 5; omega);have k1:=hR.frozen 1;have r2:=hR.cell (i:=2) (by show 2 < 5; omega);have k2:=hR.frozen 2;have r3:=hR.cell (i:=3) (by show 3 < 5; omega);have k3:=hR.frozen 3;have r4:=hR.cell (i:=4) (by show 4 < 5; omega);have k4:=hR.frozen 4;have e0:=hB.box.cell (i:=0) (by show 0 < 5; omega);have e1:=hB.box.cell (i:=1) (by show 1 < 5; omega);have e2:=hB.box.cell (i:=2) (by show 2 < 5; omega);have e3:=hB.box.cell (i:=3) (by show 3 < 5; omega);have e4:=hB.box.cell (i:=4) (by show 4 < 5; omega);have HBB:=zaa hB;clear hB hR;go_wp2;refine bodyPost_ret (v:=.agg #[.int .i64 ((ns:Int):Int),.slice a1 n1 c1,.slice (some ⟨gy,0,none⟩) n2 c2,.slice (some ⟨g3,o3,none⟩) n3 c3,.int .i64 hold]) (by simp [results,Tryz.results73,go_sem,r0,r1,r2,r3,r4]) rfl ?_;exact zwu HBB.out (by omega) (by omega) (by omega)
   have hzp:(0:Int) < (nr:Int):=by omega
   obtain ⟨gr,curr,rfl,hlr,hgr,hbb⟩:=hel (by omega);have HCP:=zaa (zap cb (K + 2 + 2 + 2) nr w3 hB.cur (by omega) (by omega));have HB4:=zaa hB;have HBBB:=zaa hbb;have HGR:=zaa hgr;clear hel hB hbb hgr
   go_wp2_with fail
   refine HCP.out.mono ?_;rintro e w4 ⟨k,rfl,hk,hc4,hB4⟩;have hB:=HB4.out.pick hB4 hc4
   have hkn:k < nr:=by omega
   have hkI:(k:Int) < (nr:Int):=by omega
   obtain ⟨b,hb⟩:=HBBB.out k hkn;have y0:=hB.box.cell (i:=3) (by show 3 < 5; omega);have y1:=zwv hB4 (show g3 ≠ cb by omega) yc;have y2:=zwv hB4 (show gr ≠ cb by omega) hb;have hg4:w4.heap[gr]? = some (.cells curr 4 (0,0)):=(hB4.block gr (Array.getElem?_eq_some_iff.1 HGR.out).1 (show gr ≠ cb by omega)).trans HGR.out;have HG4:=zaa hg4;have HB5:=zaa hB;clear HCP HB4 HBBB HGR hb yc e3 hc4 hB4 hk hB hg4
   go_upto_region 32 with fail
   refine zwt (S:=fun W:World=>W.cell? ⟨w.heap.size,3,none⟩ = some (.slice (some ⟨g3,o3,none⟩) n3 c3) ∧ W.cell? ⟨g3,o3 + r,none⟩ = some (.slice (some ⟨gr,0,none⟩) nr tr) ∧ W.cell? ⟨gr,k,none⟩ = some (.bool b)) 16 17 (by kernel_rfl) (by kernel_rfl) ⟨ckc y0 (zaf _),ckc y1 (zaf _),ckc y2 (zaf _)⟩ (fun hS=>?_);have hbd:=zaf w4;have hB:=HB5.out.call hbd;have z2:=ckc y2 hbd;have hgd:w4.drew.heap[gr]? = some (.cells curr 4 (0,0)):=HG4.out
   have fz:w4.drew.frozen? ⟨gr,k,none⟩ = false:=by simp [World.frozen?,hgd]
   have hB6:=hB.setI hgd (by decide) hlr k (u:=.bool !b) (.inr ⟨rfl,_,rfl⟩);obtain ⟨wD,hwD⟩:∃ W,W = w4.drew:=⟨_,rfl⟩;rw [← hwD] at hS z2 fz hB6 ⊢;clear hwD HB5 HG4 hB hbd hgd y0 y1 y2
   iterate 16
    refine tkI (by rfl) (by kernel_rfl) (by exact fun _ _ _ h=>h) (by rfl) (by intro _ s; (try dsimp only at s); go_simp; try with_reducible rfl) hS ?_
    try simp only [Act.put,sA,sB,sC]
   clear hS;refine zf1 At.z.s.s.s.s.s.s.s.s.s.s.s.s.s.s.s.s (by kernel_rfl) (by kernel_rfl) (fun K1 hK1=>?_);go_simp;refine hK1.out _ _ ?_;obtain ⟨W6,hW6⟩:∃ W,W = wD.setCell ⟨gr,k,none⟩ (.bool !b):=⟨_,rfl⟩;rw [← hW6] at hB6 ⊢;clear hK1 K1 hW6 fz z2
   try simp only [Act.put,sA,sB,sC]
   obtain ⟨gR,hR⟩:=hB6.res;have r0:=hR.cell (i:=0) (by show 0 < 5; omega);have k0:=hR.frozen 0;have r1:=hR.cell (i:=1) (by show 1 < 5; omega);have k1:=hR.frozen 1;have r2:=hR.cell (i:=2) (by show 2 < 5; omega);have k2:=hR.frozen 2;have r3:=hR.cell (i:=3) (by show 3 < 5; omega);have k3:=hR.frozen 3;have r4:=hR.cell (i:=4) (by show 4 < 5; omega);have k4:=hR.frozen 4;have e0:=hB6.box.cell (i:=0) (by show 0 < 5; omega);have e1:=hB6.box.cell (i:=1) (by show 1 < 5; omega);have e2:=hB6.box.cell (i:=2) (by show 2 < 5; omega);have e3:=hB6.box.cell (i:=3) (by show 3 < 5; omega);have e4:=hB6.box.cell (i:=4) (by show 4 < 5; omega);have HBB:=zaa hB6;clear hB6 hR;go_wp2;refine bodyPost_ret (v:=.agg #[.int .i64 ((ns:Int):Int),.slice a1 n1 c1,.slice (some ⟨gy,0,none⟩) n2 c2,.slice (some ⟨g3,o3,none⟩) n3 c3,.int .i64 hold]) (by simp [results,Tryz.results73,go_sem,r0,r1,r2,r3,r4]) rfl ?_;exact zwu HBB.out (by omega) (by omega) (by omega)
  ·obtain ⟨l,q,o,hl10,hls,hq,hw,hsm,⟨cur,hcur⟩,hlg,hfz,z0,z1,z2,z3,z4⟩:=HB3.out.at hin;obtain ⟨sv,tv,es⟩:=zag hw.n4;obtain ⟨mv,hmv⟩:∃ m,m = q.2.near.length:=⟨_,rfl⟩;rw [← hmv] at es;rw [es] at z4
   have hmK:mv ≤ Kb:=by rw [hmv]; exact hsm.2.2.2.2
   have e0:=HB3.out.box.cell (i:=0) (by show 0 < 5; omega);have hks:∀ W:World,W.cell? ⟨w.heap.size,0,none⟩ = some (.int .i64 (ns:Int)) → W.cell? ⟨gy,i * 5 + 4,none⟩ = some (.slice sv mv tv) → (fun W:World=>W.cell? ⟨w.heap.size,0,none⟩ = some (.int .i64 (ns:Int)) ∧ W.cell? ⟨gy,i * 5 + 4,none⟩ = some (.slice sv mv tv)) W:=fun W a b=>⟨a,b⟩;have KS:=zaa hks;clear o hl10 hls hq hw hsm hcur hfz z0 z1 z2 z3 es hmv hks hx
   go_upto_region 6 with fail
   refine zwt (S:=fun W:World=>W.cell? ⟨w.heap.size,0,none⟩ = some (.int .i64 (ns:Int)) ∧ W.cell? ⟨gy,i * 5 + 4,none⟩ = some (.slice sv mv tv)) 15 16 (by kernel_rfl) (by kernel_rfl) (KS.out _ (ckc e0 (zaf _)) (ckc z4 (zaf _))) (fun hS=>?_);have hbd:=zaf w2;have hB:=HB3.out.call hbd;have c0:=ckc e0 hbd;have cj:=ckc z4 hbd;obtain ⟨wD,hwD⟩:∃ W,W = w2.drew:=⟨_,rfl⟩;rw [← hwD] at hS hB c0 cj ⊢;clear hwD HB3 e0 z4
   iterate 9
    refine tkI (by rfl) (by kernel_rfl) (by exact fun _ _ _ h=>h) (by rfl) (by intro _ s; (try dsimp only at s); go_simp; try with_reducible rfl) hS ?_
    try simp only [Act.put,sA,sB,sC]
   rw [show IntKind.i64.wrap ((ns:Int) + 2) = ((ns + 2:Nat):Int) from (IntWalk.i64_in _ ⟨by omega,by omega⟩).trans (by omega)];clear hS;refine zbk (i:=9) At.z.s.s.s.s.s.s.s.s.s (by kernel_rfl) (fun K1 hK1=>?_);go_simp;refine (zap cb (K + 2 + 2) (ns + 2) wD hB.cur (by omega) (by omega)).mono ?_;rintro e w3 ⟨y,rfl,hy,hc3,hB3⟩;replace hB:=hB.pick hB3 hc3;replace c0:=zwv hB3 (show w.heap.size ≠ cb by omega) c0;replace cj:=zwv hB3 (show gy ≠ cb by omega) cj;have hS:=KS.out _ c0 cj;refine hK1.out _ _ hS ?_;clear hK1 K1 hc3 hB3
   try simp only [Act.put,sA,sB,sC]
   refine zbk (i:=10) At.z.s.s.s.s.s.s.s.s.s.s (by kernel_rfl) (fun K1 hK1=>?_);go_simp;refine hK1.out _ _ hS ?_;clear hK1 K1
   try simp only [Act.put,sA,sB,sC]
   rw [show IntKind.i64.wrap ((y:Int) - 1) = (y:Int) - 1 from (IntWalk.i64_in _ ⟨by omega,by omega⟩).trans (by omega)];clear hS;refine zbk (i:=11) At.z.s.s.s.s.s.s.s.s.s.s.s (by kernel_rfl) (fun K1 hK1=>?_);go_simp;have hbn:=zab w3 (.cells #[.int .i64 ((y:Int) - 1)] 3);have SRC:=zaa (zhj w3 3 #[.int .i64 ((y:Int) - 1)]);replace hB:=hB.call hbn;replace c0:=ckc c0 hbn;replace cj:=ckc cj hbn;refine hK1.out _ _ (KS.out _ c0 cj) ?_;obtain ⟨w4,hw4⟩:∃ W,W = w3.alloc (.cells #[.int .i64 ((y:Int) - 1)] 3):=⟨_,rfl⟩;rw [← hw4] at hB c0 cj SRC ⊢;clear hK1 K1 hbn hw4
   try simp only [Act.put,sA,sB,sC]
   obtain ⟨l,q,o,hl10,hls,hq,hw,hsm,⟨cur,hcur⟩,-,hfz,z0,z1,z2,z3,z4⟩:=hB.at hin;have es:q.1.v4 = .slice sv mv tv:=Option.some.inj (z4.symm.trans cj);have how:=hw.n4;rw [es] at how
   have hml:q.2.near.length = mv:=by obtain ⟨a,c,e⟩:=zag how; cases e; rfl
   rw [hml] at how;have hz4:lo ≤ w4.heap.size:=Nat.le_trans hlo hB.but.size;clear o hl10 hls hq hw hsm hfz z0 z1 z2 z3 z4 es;refine zbk (i:=12) At.z.s.s.s.s.s.s.s.s.s.s.s.s (by kernel_rfl) (fun K1 hK1=>?_);refine zxc _ _ 23 rfl lo 3 (.int .i64 0) 1 8 Tryz.underlying23 Tryz.infoInt rfl (by decide) (.slice sv mv tv) mv (zcg q.2.near) rfl how ⟨w3.heap.size,0,none⟩ 1 1 [.int .i64 ((y:Int) - 1)] rfl rfl SRC.out (zxy _) (zxl _) (by unfold maxLen; omega) (by omega) hz4 ?_;intro v' wE hownE hgr hT;obtain ⟨a6,c6,rfl⟩:=zag hownE;have hBE:=hB.grown how (by decide) hT hgr;have c0E:=hBE.box.cell (i:=0) (by show 0 < 5; omega);have cjE:=hT.way hcur cj;have hS:=KS.out _ c0E cjE;refine hK1.out _ _ hS ?_;obtain ⟨l2,q2,o2,hl2,hls2,hq2,hw2,hsm2,⟨cur2,hcur2⟩,-,hfz2,-,-,-,-,-⟩:=hBE.at hin
   have hnl:(q.2.near ++ [((y:Int) - 1)]).length = mv + 1:=by rw [List.length_append,hml]; rfl
   have hownF:wE.ownsRow lo 3 1 (.slice a6 (mv + 1) c6) (q.2.near ++ [((y:Int) - 1)]).length (zcg (q.2.near ++ [((y:Int) - 1)])):=by rw [zc4,hnl]; exact hownE
   have hsp:=hBE.spl.put o2 hl2 hls2 rfl (i:=i) (j:=4) (by omega) hq2 (u:=.slice a6 (mv + 1) c6) (d':=⟨q2.2.sections,q2.2.lies,q2.2.flanks,q2.2.over,q.2.near ++ [((y:Int) - 1)]⟩) ⟨hw2.s0,hw2.l1,hw2.l2,hw2.o3,hownF⟩ ⟨Nat.le_succ_of_le hsm2.1,Nat.le_succ_of_le hsm2.2.1,Nat.le_succ_of_le hsm2.2.2.1,Nat.le_succ_of_le hsm2.2.2.2.1,by show (q.2.near ++ [((y:Int) - 1)]).length ≤ Kb + 1; rw [hnl]; omega⟩;have hB6:SpB w cb lo _ (Kb + 1) (ns:Int) hold (wE.setCell ⟨gy,i * 5 + 4,none⟩ (.slice a6 (mv + 1) c6)) (.slice a1 n1 c1) (.slice (some ⟨gy,0,none⟩) n2 c2) (.slice a3 n3 c3):=hBE.way hcur2 hlg hsp;have fz:=hfz2 (i * 5 + 4);clear hK1 K1 how hownE hownF hgr hT hBE c0E c0 cj hB o2 hl2 hls2 hq2 hw2 hsm2 hcur hcur2 hfz2 hsp SRC KS hnl hml
   try simp only [Act.put,sA,sB,sC]
   refine zbk (i:=13) At.z.s.s.s.s.s.s.s.s.s.s.s.s.s (by kernel_rfl) (fun K1 hK1=>?_);go_simp;refine hK1.out _ _ hS ?_;clear hK1 K1
   try simp only [Act.put,sA,sB,sC]
   refine zbk (i:=14) At.z.s.s.s.s.s.s.s.s.s.s.s.s.s.s (by kernel_rfl) (fun K1 hK1=>?_);go_simp;refine hK1.out _ _ hS ?_;clear hK1 K1
   try simp only [Act.put,sA,sB,sC]
   clear hS;refine zf1 At.z.s.s.s.s.s.s.s.s.s.s.s.s.s.s.s (by kernel_rfl) (by kernel_rfl) (fun K1 hK1=>?_);go_simp;refine hK1.out _ _ ?_;obtain ⟨W6,hW6⟩:∃ W,W = wE.setCell ⟨gy,i * 5 + 4,none⟩ (.slice a6 (mv + 1) c6):=⟨_,rfl⟩;rw [← hW6] at hB6 ⊢;clear hK1 K1 hW6 fz cjE
   try simp only [Act.put,sA,sB,sC]
   obtain ⟨gR,hR⟩:=hB6.res;have r0:=hR.cell (i:=0) (by show 0 < 5; omega);have k0:=hR.frozen 0;have r1:=hR.cell (i:=1) (by show 1 < 5; omega);have k1:=hR.frozen 1;have r2:=hR.cell (i:=2) (by show 2 < 5; omega);have k2:=hR.frozen 2;have r3:=hR.cell (i:=3) (by show 3 < 5; omega);have k3:=hR.frozen 3;have r4:=hR.cell (i:=4) (by show 4 < 5; omega);have k4:=hR.frozen 4;have e0:=hB6.box.cell (i:=0) (by show 0 < 5; omega);have e1:=hB6.box.cell (i:=1) (by show 1 < 5; omega);have e2:=hB6.box.cell (i:=2) (by show 2 < 5; omega);have e3:=hB6.box.cell (i:=3) (by show 3 < 5; omega);have e4:=hB6.box.cell (i:=4) (by show 4 < 5; omega);have HBB:=zaa hB6;clear hB6 hR;go_wp2;refine bodyPost_ret (v:=.agg #[.int .i64 ((ns:Int):Int),.slice a1 n1 c1,.slice (some ⟨gy,0,none⟩) n2 c2,.slice a3 n3 c3,.int .i64 hold]) (by simp [results,Tryz.results73,go_sem,r0,r1,r2,r3,r4]) rfl ?_;exact zwu HBB.out (by omega) (by omega) (by omega)
end Go.Proofs.YtdhinkgjiapigaaGreatDoor
