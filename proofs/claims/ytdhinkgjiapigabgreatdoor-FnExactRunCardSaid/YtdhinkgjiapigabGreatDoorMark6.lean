import Derived.Test.YtdhinkgjiapigabGreatDoorMarkA
import Derived.Test.YtdhinkgjiapigabGreatDoorToA
namespace Go.Proofs.YtdhinkgjiapigabGreatDoor
open Go.RowKit Go.Deep
def m3 (k:Int):Bool:=k % 3 == 0
def marksB (k:Int) (n:Nat):List Bool:=(List.range n).map fun i:Nat=>m3 (k + i)
def marksP (k:Int) (n:Nat):List (Int × Int):=(List.range n).map fun i:Nat=>(k + 2 * (i:Int),k + 2 * (i:Int) + 1)
def markH (k:Int) (x:HeldD):HeldD:=⟨k,k + 1,marksB (k + 1 + 1) x.been.length,m3 (k + 1 + 1 + x.been.length),k + 1 + 1 + x.been.length + 1⟩
def cntH (l:List HeldD):Nat:=(l.map fun x=>4 + x.been.length).sum
def posH (k:Int) (l:List HeldD) (j:Nat):Int:=k + cntH (l.take j)
def markHs (k:Int) (l:List HeldD):List HeldD:=l.mapIdx fun i x=>markH (posH k l i) x
def markF (k:Int) (d:FrameD):FrameD:=⟨d.ok,marksB k d.occ.length,marksP (k + d.occ.length) d.points.length,markHs (k + d.occ.length + 2 * d.points.length) d.ways⟩
def cntF (d:FrameD):Int:=d.occ.length + 2 * d.points.length + cntH d.ways
theorem marksB_length (k:Int) (n:Nat):(marksB k n).length = n:=by simp [marksB]
theorem marksP_length (k:Int) (n:Nat):(marksP k n).length = n:=by simp [marksP]
theorem markHs_length (k:Int) (l:List HeldD):(markHs k l).length = l.length:=by simp [markHs]
theorem marksB_get {k:Int} {n i:Nat} (h:i < n):(marksB k n)[i]? = some (m3 (k + i)):=by simp [marksB,h]
theorem marksP_get {k:Int} {n i:Nat} (h:i < n):(marksP k n)[i]? = some (k + 2 * i,k + 2 * i + 1):=by simp [marksP,h]
theorem markHs_get {k:Int} {l:List HeldD} {i:Nat} {x:HeldD} (h:l[i]? = some x):(markHs k l)[i]? = some (markH (posH k l i) x):=by simp [markHs,h]
theorem posH_zero (k:Int) (l:List HeldD):posH k l 0 = k:=by simp [posH,cntH]
theorem posH_succ {k:Int} {l:List HeldD} {j:Nat} {x:HeldD} (h:l[j]? = some x):posH k l (j + 1) = posH k l j + 4 + x.been.length:=by
 unfold posH cntH
 rw [List.take_add_one,h]
 simp
 omega
theorem posH_end {k:Int} {l:List HeldD} {j:Nat} (h:l.length ≤ j):posH k l j = k + cntH l:=by
 unfold posH
 rw [List.take_of_length_le h]
theorem cntH_le {l:List HeldD} {N:Nat} (h:∀ x ∈ l,x.been.length ≤ N) (j:Nat):cntH (l.take j) ≤ (4 + N) * j:=by
 induction j with
 | zero=>simp [cntH]
 | succ j ih=>
  cases hx:l[j]? with
  | none=>
   rw [List.take_of_length_le (by have:=List.getElem?_eq_none_iff.1 hx; omega:l.length ≤ j + 1)]
   rw [List.take_of_length_le (by have:=List.getElem?_eq_none_iff.1 hx; omega:l.length ≤ j)] at ih
   exact Nat.le_trans ih (Nat.mul_le_mul_left _ (by omega))
  | some x=>
   unfold cntH at ih ⊢
   rw [List.take_add_one,hx]
   simp only [List.map_append,List.sum_append,Option.toList_some,List.map_cons,List.map_nil,List.sum_cons,List.sum_nil]
   have:=h x (List.mem_of_getElem? hx)
   rw [Nat.mul_add]
   omega
set_option maxHeartbeats 1000000 in
theorem markBools_own (v:Value) (l:List Bool) (b:Nat) (k:Int) (w:World) (hv:OBools w v l b) (hn:l.length ≤ 1048576) (h0:0 ≤ k) (h1:k ≤ 1152921504606846976) :
  Calls Tryz.prog 95 #[v,.int .i64 k] w fun e w'=>e = .returned (.int .i64 (k + l.length)) ∧ OBools w' v (marksB k l.length) b ∧ But (fun c=>c ≠ b) w w':=by
 obtain ⟨f,N,cap,rfl,hr,hN,-⟩:=hv
 obtain ⟨n,hn'⟩:∃ n,l.length = n:=⟨_,rfl⟩
 rw [hn'] at hn hN ⊢
 clear hn'
 go_enter Tryz.func95,Tryz.ntmps95
 go_wp2
 go_loopw [1,5] (fun kv i wr=>∃ (j:Nat) (q:Int) (g:Nat → Value),j ≤ n ∧ i = .int .i64 j ∧ q = k + j ∧ kv = .int .i64 q ∧ wr.rowIs b 4 N g ∧ (∀ i:Nat,i < j → g i = .bool (m3 (k + i))) ∧ But (fun c=>c ≠ b) w wr) (fun _ i _=>n - (intOf i).toNat)
 case atStart=>exact ⟨0,_,f,Nat.zero_le _,rfl,by simp,rfl,hr,fun i hi=>by omega,But.refl _ _⟩
 case round=>
  obtain ⟨j,q,g,hj,rfl,hq,rfl,hg,hm,hb⟩:=hrel
  have HM:=hide hm
  have HB:=hide hb
  have Hq:=hide hq
  have hq2:q ≤ 1152921504606846976 + 4194304:=by omega
  have hq0:0 ≤ q:=by omega
  clear hm hb hq
  by_cases hlt:j < n
  ·have c0:=hg.cell (i:=j) (by omega)
   have f0:=hg.frozen j
   clear hr
   go_wp2
   go_roundw
   case rel=>
    refine ⟨j + 1,_,_,by omega,by go_num,by have:=Hq.out; omega,rfl,hg.set j _,fun i hi=>?_,HB.out.setCell (fun z=>z rfl) _⟩
    by_cases e:i = j
    ·subst e; rw [if_pos rfl,← Hq.out]; rfl
    ·rw [if_neg e]; exact HM.out i (by omega)
   case measure=>simp [intOf]; omega
  ·go_wp2
   go_ret
   have hjn:j = n:=by omega
   refine ⟨ret_int (by have:=Hq.out; omega),⟨g,N,cap,by rw [marksB_length],hg,by rw [marksB_length]; exact hN,fun i x hx=>?_⟩,HB.out⟩
   have hi:i < n:=by have:=(List.getElem?_eq_some_iff.1 hx).1; rw [marksB_length] at this; exact this
   rw [marksB_get hi] at hx
   cases hx
   exact HM.out i (by omega)
def Emp (v:Value):Prop:=∃ a c,v = .slice a 0 c
set_option maxHeartbeats 1000000 in
theorem markBools_none (v:Value) (k:Int) (w:World) (hv:Emp v) (_h0:0 ≤ k):Calls Tryz.prog 95 #[v,.int .i64 k] w fun e w'=>e = .returned (.int .i64 k) ∧ w' = w:=by
 obtain ⟨a,c,rfl⟩:=hv
 go_enter Tryz.func95,Tryz.ntmps95
 go_wp2
 go_loopw [1,5] (fun kv i wr=>i = .int .i64 0 ∧ kv = .int .i64 k ∧ wr = w) (fun _ _ _=>0)
 case atStart=>exact ⟨rfl,rfl,rfl⟩
 case round=>
  obtain ⟨rfl,rfl,rfl⟩:=hrel
  go_wp2
  go_ret
  exact ⟨rfl,rfl⟩
set_option maxHeartbeats 1000000 in
theorem markPointsO_any (v:Value) (l:List (Int × Int)) (b:Nat) (k:Int) (w:World) (hv:OPoints w v l b) (hn:l.length ≤ 1048576) (h0:0 ≤ k) (h1:k ≤ 1152921504606846976) :
  Calls Tryz.prog 96 #[v,.int .i64 k] w fun e w'=>e = .returned (.int .i64 (k + 2 * l.length)) ∧ OPoints w' v (marksP k l.length) b ∧ But (fun c=>c ≠ b) w w':=by
 obtain ⟨a,cap,rfl,hc⟩:=hv
 obtain ⟨n,hn'⟩:∃ n,l.length = n:=⟨_,rfl⟩
 rcases hc with hl | ⟨rfl,f,N,hr,hN,-⟩
 ·rw [hl]
  clear hn' hn
  go_enter Tryz.func96,Tryz.ntmps96
  go_wp2
  go_loopw [1,5] (fun kv i wr=>i = .int .i64 0 ∧ kv = .int .i64 k ∧ wr = w) (fun _ _ _=>0)
  case atStart=>exact ⟨rfl,rfl,rfl⟩
  case round=>
   obtain ⟨rfl,rfl,rfl⟩:=hrel
   go_wp2
   go_ret
   exact ⟨ret_int (by omega),⟨a,cap,by rw [marksP_length],.inl (marksP_length _ _)⟩,But.refl _ _⟩
 rw [hn'] at hn hN ⊢
 clear hn'
 go_enter Tryz.func96,Tryz.ntmps96
 go_wp2
 go_loopw [1,5] (fun kv i wr=>∃ (j:Nat) (q:Int) (g:Nat → Value),j ≤ n ∧ i = .int .i64 j ∧ q = k + 2 * j ∧ kv = .int .i64 q ∧ wr.rowIs b 90 N g ∧ (∀ i:Nat,i < j → g (i * 2) = .int .i64 (k + 2 * i) ∧ g (i * 2 + 1) = .int .i64 (k + 2 * i + 1)) ∧ But (fun c=>c ≠ b) w wr) (fun _ i _=>n - (intOf i).toNat)
 case atStart=>exact ⟨0,_,f,Nat.zero_le _,rfl,by simp,rfl,hr,fun i hi=>by omega,But.refl _ _⟩
 case round=>
  obtain ⟨j,q,g,hj,rfl,hq,rfl,hg,hm,hb⟩:=hrel
  have HM:=hide hm
  have HB:=hide hb
  have Hq:=hide hq
  have hq2:q ≤ 1152921504606846976 + 4194304:=by omega
  have hq0:0 ≤ q:=by omega
  clear hm hb hq
  by_cases hlt:j < n
  ·have c0:=hg.cell (i:=j * 2) (by omega)
   have f0:=hg.frozen (j * 2)
   have c1:=hg.cell (i:=j * 2 + 1) (by omega)
   have f1:=hg.frozen (j * 2 + 1)
   clear hr
   go_wp2
   go_roundw
   case rel=>
    refine ⟨j + 1,_,_,by omega,by go_num,by have:=Hq.out; omega,rfl,(hg.set (j * 2) _).set (j * 2 + 1) _,fun i hi=>?_,(HB.out.setCell (fun z=>z rfl) _).setCell (fun z=>z rfl) _⟩
    by_cases e:i = j
    ·subst e
     rw [if_neg (by omega),if_pos rfl,if_pos rfl,Hq.out]
     exact ⟨rfl,rfl⟩
    ·rw [if_neg (by omega),if_neg (by omega),if_neg (by omega),if_neg (by omega)]; exact HM.out i (by omega)
   case measure=>simp [intOf]; omega
  ·go_wp2
   go_ret
   have hjn:j = n:=by omega
   refine ⟨ret_int (by have:=Hq.out; omega),⟨_,cap,by rw [marksP_length],.inr ⟨rfl,g,N,hg,by rw [marksP_length]; exact hN,fun i x hx=>?_⟩⟩,HB.out⟩
   have hi:i < n:=by have:=(List.getElem?_eq_some_iff.1 hx).1; rw [marksP_length] at this; exact this
   rw [marksP_get hi] at hx
   cases hx
   exact HM.out i (by omega)
end Go.Proofs.YtdhinkgjiapigabGreatDoor
namespace Go.Proofs.YtdhinkgjiapigabGreatDoor
open Go.RowKit Go.Deep
theorem held_marked {wr W2 w3:World} {bw b N j:Nat} {f:Nat → Value} {x:HeldD} {q:Int} (hr:wr.rowIs bw 93 N f) (_hx:HeldO wr f j x b) (hne:b ≠ bw)
  (hW2:W2 = (wr.setCell ⟨bw,j * 5,none⟩ (.int .i64 q)).setCell ⟨bw,j * 5 + 1,none⟩ (.int .i64 (q + 1))) (hb3:But (fun c=>c ≠ b) W2 w3) (ho3:OBools w3 (f (j * 5 + 2)) (marksB (q + 1 + 1) x.been.length) b) (v3 v4:Value)
  (h3:v3 = .bool (m3 (q + 1 + 1 + x.been.length))) (h4:v4 = .int .i64 (q + 1 + 1 + x.been.length + 1)) :
  HeldStep wr ((w3.setCell ⟨bw,j * 5 + 3,none⟩ v3).setCell ⟨bw,j * 5 + 4,none⟩ v4) bw N j f b (markH q x):=by
 subst h3 h4 hW2
 have R2:=(hr.set (j * 5) (.int .i64 q)).set (j * 5 + 1) (.int .i64 (q + 1))
 have R3:=hb3.row R2 (fun z=>hne z.symm)
 have R5:=(R3.set (j * 5 + 3) (.bool (m3 (q + 1 + 1 + x.been.length)))).set (j * 5 + 4) (.int .i64 (q + 1 + 1 + x.been.length + 1))
 have BT:But (fun c=>c ≠ bw ∧ c ≠ b) wr w3:=by
  exact (((But.refl _ _).setCell (fun z=>z.1 rfl) _).setCell (fun z=>z.1 rfl) _).trans (hb3.mono fun _ _ z=>z.2)
 refine ⟨(BT.setCell (fun z=>z.1 rfl) _).setCell (fun z=>z.1 rfl) _,_,b,R5,⟨?_,?_,?_,?_,?_⟩,fun p _ hp=>?_,.inl rfl⟩
 ·dsimp only; rw [if_neg (by omega),if_neg (by omega),if_neg (by omega),if_pos rfl]; rfl
 ·dsimp only; rw [if_neg (by omega),if_neg (by omega),if_pos rfl]; rfl
 ·dsimp only; rw [if_neg (by omega),if_neg (by omega),if_neg (by omega),if_neg (by omega)]
  obtain ⟨g,M,c,hv,hg,k⟩:=ho3
  exact ⟨g,M,c,hv,(hg.setOther hne _).setOther hne _,k⟩
 ·dsimp only; rw [if_neg (by omega),if_pos rfl]; rfl
 ·dsimp only; rw [if_pos rfl]; rfl
 ·rw [if_neg (by omega),if_neg (by omega),if_neg (by omega),if_neg (by omega)]
def MarkR (P:Nat → Prop) (W0:World) (v1 v2 v3:Value) (d:FrameD) (k:Int) (bo bp bw:Nat) (i:Nat) (W:World):Prop:=
 ∃ (cur:List HeldD) (bb:Nat → Nat),cur.length = d.ways.length ∧ (∀ (j:Nat) h,j < i → d.ways[j]? = some h → cur[j]? = some (markH (posH k d.ways j) h)) ∧ (∀ j:Nat,i ≤ j → cur[j]? = d.ways[j]?) ∧
  OFrame P W v1 v2 v3 { d with ways:=cur } bo bp bw bb ∧ But (fun c=>¬ P c) W0 W
theorem MarkR.next {P:Nat → Prop} {W0:World} {v1 v2 v3:Value} {d:FrameD} {k:Int} {bo bp bw:Nat} {i:Nat} {W W':World} {cur:List HeldD} {bb:Nat → Nat} {h:HeldD} {f:Nat → Value} {N:Nat}
  (hl:cur.length = d.ways.length) (h1:∀ (j:Nat) h,j < i → d.ways[j]? = some h → cur[j]? = some (markH (posH k d.ways j) h)) (h2:∀ j:Nat,i ≤ j → cur[j]? = d.ways[j]?)
  (hf:OFrame P W v1 v2 v3 { d with ways:=cur } bo bp bw bb) (hb:But (fun c=>¬ P c) W0 W) (hB:∀ c,W.heap.size ≤ c → P c) (hi:i < d.ways.length) (hh:d.ways[i]? = some h)
  (hr:W.rowIs bw 93 N f) (hs:HeldStep W W' bw N i f (bb i) (markH (posH k d.ways i) h)):MarkR P W0 v1 v2 v3 d k bo bp bw (i + 1) W':=by
 obtain ⟨bb',hf',e⟩:=hf.step (Q:=P) (i:=i) (by show i < cur.length; omega) (x:=markH (posH k d.ways i) h) (w':=W')
  (fun f' N' hr' _ _=>hs.from hr hr') (fun _ q=>q) (fun c q _=>hB c q)
 refine ⟨cur.set i (markH (posH k d.ways i) h),bb',by rw [List.length_set]; exact hl,fun j g hj hg=>?_,fun j hj=>?_,hf',?_⟩
 ·by_cases e2:j = i
  ·subst e2
   rw [hh] at hg
   cases hg
   rw [List.getElem?_set_self (by omega)]
  ·rw [List.getElem?_set_ne (Ne.symm e2)]
   exact h1 j g (by omega) hg
 ·rw [List.getElem?_set_ne (by omega)]
  exact h2 j (by omega)
 ·refine hb.trans (e.mono fun c _ hk=>⟨?_,?_⟩)
  ·exact fun e2=>hk (e2 ▸ hf.pw (by show cur.length ≠ 0; omega))
  ·exact fun e2=>hk (e2 ▸ hf.pb i (by show i < cur.length; omega))
theorem MarkR.end {P:Nat → Prop} {W0:World} {v1 v2 v3:Value} {d:FrameD} {k:Int} {bo bp bw:Nat} {n:Nat} {W:World} (h:MarkR P W0 v1 v2 v3 d k bo bp bw n W) (hn:n = d.ways.length) :
  ∃ bb,OFrame P W v1 v2 v3 { d with ways:=markHs k d.ways } bo bp bw bb ∧ But (fun c=>¬ P c) W0 W:=by
 obtain ⟨cur,bb,h0,h1,-,hf,hb⟩:=h
 have:cur = markHs k d.ways:=by
  apply List.ext_getElem?
  intro j
  by_cases hj:j < d.ways.length
  ·obtain ⟨x,hx⟩:=lt_get d.ways hj
   rw [h1 j x (by omega) hx,markHs_get hx]
  ·rw [List.getElem?_eq_none (by omega),List.getElem?_eq_none (by rw [markHs_length]; omega)]
 rw [this] at hf
 exact ⟨bb,hf,hb⟩
set_option maxRecDepth 100000 in
set_option maxHeartbeats 4000000 in
theorem markHeldsO_any (P:Nat → Prop) (v1 v2 v3:Value) (d:FrameD) (bo bp bw:Nat) (bb:Nat → Nat) (k:Int) (w:World) (hf:OFrame P w v1 v2 v3 d bo bp bw bb) (hB:∀ c,w.heap.size ≤ c → P c) (hn:d.ways.length ≤ 1048576) (hs:∀ x ∈ d.ways,x.been.length ≤ 1048576) (h0:0 ≤ k) (h1:k ≤ 1125899906842624) :
  Calls Tryz.prog 97 #[v3,.int .i64 k] w fun e w'=>e = .returned (.int .i64 (k + cntH d.ways)) ∧ ∃ bb',OFrame P w' v1 v2 v3 { d with ways:=markHs k d.ways } bo bp bw bb' ∧ But (fun c=>¬ P c) w w':=by
 have hv3:∃ a cap,v3 = .slice a d.ways.length cap:=by obtain ⟨a,cap,e,-⟩:=hf.ways; exact ⟨a,cap,e⟩
 obtain ⟨a3,c3,rfl⟩:=hv3
 have hpos:∀ j,posH k d.ways j ≤ k + (4 + 1048576) * j:=fun j=>by unfold posH; have:=cntH_le hs j; omega
 have hge:∀ j,k ≤ posH k d.ways j:=fun j=>by unfold posH; omega
 have HPOS:=hide hpos
 have HGE:=hide hge
 have HS:=hide hs
 have HF:=hide hf
 obtain ⟨n,hn'⟩:∃ n,d.ways.length = n:=⟨_,rfl⟩
 have HN:=hide hn'
 rw [hn'] at hn ⊢
 clear hpos hge hs hf hn'
 go_enter Tryz.func97,Tryz.ntmps97
 go_wp2
 go_loopw [1,5] (fun kv i wr=>∃ (j:Nat) (q:Int),j ≤ n ∧ i = .int .i64 j ∧ q = posH k d.ways j ∧ kv = .int .i64 q ∧ MarkR P w v1 v2 (.slice a3 n c3) d k bo bp bw j wr) (fun _ i _=>n - (intOf i).toNat)
 case atStart=>exact ⟨0,_,Nat.zero_le _,rfl,(posH_zero _ _).symm,rfl,d.ways,bb,rfl,fun j h hj=>by omega,fun _ _=>rfl,by have:=HF.out; rw [HN.out] at this; exact this,But.refl _ _⟩
 case round=>
  obtain ⟨j,q,hj,rfl,hq,rfl,cur,bb2,hl,c1,c2,hfr,hbt⟩:=hrel
  have Hq:=hide hq
  have hq2:q ≤ 1125899906842624 + 1048580 * 1048576:=by have:=HPOS.out j; omega
  have hq0:0 ≤ q:=by have:=HGE.out j; omega
  have HL:=hide hl
  have C1:=hide c1
  have C2:=hide c2
  have HFR:=hide hfr
  have HBT:=hide hbt
  clear hq hl c1 c2 hfr hbt HF
  by_cases hlt:j < n
  ·obtain ⟨x,hx⟩:=lt_get d.ways (i:=j) (by rw [HN.out]; exact hlt)
   have hcx:cur[j]? = some x:=by rw [C2.out j (Nat.le_refl _)]; exact hx
   have hxl:x.been.length ≤ 1048576:=HS.out x (List.mem_of_getElem? hx)
   have hlc:cur.length = n:=by rw [HL.out,HN.out]
   obtain ⟨a,cap,e3,h00 | ⟨e4,f,N,hr,hN,hfx⟩⟩:=HFR.out.ways
   ·have h00':cur.length = 0:=h00
    omega
   have hN':cur.length * 5 ≤ N:=hN
   have hO:=hfx j x hcx
   cases e3
   subst e4
   have hne:bb2 j ≠ bw:=by
    obtain ⟨g,M,c,-,hg,-⟩:=hO.2.2.1
    exact rowIs_ne hg hr (by decide)
   obtain ⟨k0,k1,k2,k3,k4⟩:=hO
   have HO:Hid (HeldO wr f j x (bb2 j)):=⟨k0,k1,k2,k3,k4⟩
   have g0:=hr.cell (i:=j * 5) (by omega)
   have g1:=hr.cell (i:=j * 5 + 1) (by omega)
   have g2:=hr.cell (i:=j * 5 + 2) (by omega)
   have g3:=hr.cell (i:=j * 5 + 3) (by omega)
   have g4:=hr.cell (i:=j * 5 + 4) (by omega)
   obtain ⟨gg,MM,cc,kv,-,-⟩:=id k2
   rw [kv] at g2
   have z0:=hr.frozen (j * 5)
   have z1:=hr.frozen (j * 5 + 1)
   have z3:=hr.frozen (j * 5 + 3)
   have z4:=hr.frozen (j * 5 + 4)
   have R2:=(hr.set (j * 5) (.int .i64 q)).set (j * 5 + 1) (.int .i64 (q + 1))
   have o2:OBools ((wr.setCell ⟨bw,j * 5,none⟩ (.int .i64 q)).setCell ⟨bw,j * 5 + 1,none⟩ (.int .i64 (q + 1))) (f (j * 5 + 2)) x.been (bb2 j):=by
    obtain ⟨g,M,c,hv,hg,kk⟩:=k2
    exact ⟨g,M,c,hv,(hg.setOther hne _).setOther hne _,kk⟩
   have KV:=hide kv
   rw [kv] at o2
   have O2:=hide o2
   have HR:=hide hr
   have HR2:=hide R2
   have HNE:=hide hne
   have HX:=hide hx
   clear o2 hr R2 hne hx hcx k0 k1 k2 k3 k4 hfx kv
   go_wp2_with fail
   refine (markBools_own _ x.been (bb2 j) (q + 1 + 1) _ O2.out hxl (by omega) (by omega)).mono ?_
   rintro e w3 ⟨rfl,ho3,hb3⟩
   have R3:=hb3.row HR2.out (fun z=>HNE.out z.symm)
   clear g0 g1 g2 g3 g4 z0 z1 z3 z4
   have g3:=R3.cell (i:=j * 5 + 3) (by omega)
   have g4:=R3.cell (i:=j * 5 + 4) (by omega)
   have z3:=R3.frozen (j * 5 + 3)
   have z4:=R3.frozen (j * 5 + 4)
   have O3:=hide ho3
   have B3:=hide hb3
   clear R3 ho3 hb3
   go_wp2
   go_roundw
   case rel=>
    refine ⟨j + 1,_,by omega,by go_num,?_,rfl,?_⟩
    ·have:=posH_succ (k:=k) HX.out; have:=Hq.out; omega
    ·refine MarkR.next HL.out C1.out C2.out HFR.out HBT.out (fun c hc=>hB c (Nat.le_trans HBT.out.size hc)) (by rw [HN.out]; exact hlt) HX.out HR.out ?_
     rw [← Hq.out]
     exact held_marked HR.out HO.out HNE.out rfl B3.out (by rw [KV.out]; exact O3.out) _ _ rfl rfl
   case measure=>simp [intOf]; omega
  ·go_wp2
   go_ret
   have hjn:j = n:=by omega
   subst hjn
   refine ⟨ret_int ?_,?_⟩
   ·rw [Hq.out]; exact posH_end (by rw [HN.out]; exact Nat.le_refl _)
   ·exact MarkR.end ⟨cur,bb2,HL.out,C1.out,C2.out,HFR.out,HBT.out⟩ HN.out.symm
end Go.Proofs.YtdhinkgjiapigabGreatDoor
namespace Go.Proofs.YtdhinkgjiapigabGreatDoor
open Go.RowKit Go.Deep
set_option maxHeartbeats 1000000 in
theorem heldBoolS_any (v:Value) (n:Nat) (k:Int) (w:World) (hv:Bools (In w) w v (marksB k n)) (hn:n ≤ 1048576) (h0:0 ≤ k) (h1:k ≤ 1152921504606846976) :
  Calls Tryz.prog 103 #[v,.int .i64 k] w fun e w'=>e = .returned (.int .i64 (k + n)) ∧ w' = w:=by
 obtain ⟨a,cap,rfl,hc⟩:=hv
 rw [marksB_length] at hc ⊢
 have HC:=hide hc
 clear hc
 go_enter Tryz.func103,Tryz.ntmps103
 go_wp2
 go_loop [1,5] (fun kv i=>∃ (j:Nat) (q:Int),j ≤ n ∧ i = .int .i64 j ∧ q = k + j ∧ kv = .int .i64 q) (fun _ i=>n - (intOf i).toNat)
 case atStart=>exact ⟨0,_,Nat.zero_le _,rfl,by simp,rfl⟩
 case round=>
  obtain ⟨j,q,hj,rfl,hq,rfl⟩:=hrel
  have Hq:=hide hq
  have hq2:q ≤ 1152921504606846976 + 4194304:=by omega
  have hq0:0 ≤ q:=by omega
  clear hq
  by_cases hlt:j < n
  ·obtain z0 | ⟨b,off,rfl,hb0,hc⟩:=HC.out
   ·omega
   have g0:=hc j hlt _ (marksB_get hlt)
   rw [← Hq.out,show m3 q = (q % 3 == 0) from rfl] at g0
   clear hc
   go_wp2
   go_round
   case rel=>exact ⟨j + 1,_,by omega,by go_num,by have:=Hq.out; omega,rfl⟩
   case measure=>simp [intOf]; omega
  ·go_wp2
   go_ret
   exact ⟨ret_int (by have:=Hq.out; omega),rfl⟩
set_option maxHeartbeats 1000000 in
theorem heldPointS_any (v:Value) (n:Nat) (k:Int) (w:World) (hv:Lies (In w) w v (marksP k n)) (hn:n ≤ 1048576) (h0:0 ≤ k) (h1:k ≤ 1152921504606846976) :
  Calls Tryz.prog 104 #[v,.int .i64 k] w fun e w'=>e = .returned (.int .i64 (k + 2 * n)) ∧ w' = w:=by
 obtain ⟨a,cap,rfl,hc⟩:=hv
 rw [marksP_length] at hc ⊢
 have HC:=hide hc
 clear hc
 go_enter Tryz.func104,Tryz.ntmps104
 go_wp2
 go_loop [1,5] (fun kv i=>∃ (j:Nat) (q:Int),j ≤ n ∧ i = .int .i64 j ∧ q = k + 2 * j ∧ kv = .int .i64 q) (fun _ i=>n - (intOf i).toNat)
 case atStart=>exact ⟨0,_,Nat.zero_le _,rfl,by simp,rfl⟩
 case round=>
  obtain ⟨j,q,hj,rfl,hq,rfl⟩:=hrel
  have Hq:=hide hq
  have hq2:q ≤ 1152921504606846976 + 4194304:=by omega
  have hq0:0 ≤ q:=by omega
  clear hq
  by_cases hlt:j < n
  ·obtain z0 | ⟨b,off,rfl,hb0,hc⟩:=HC.out
   ·omega
   obtain ⟨g0,g1⟩:=hc j hlt _ (marksP_get hlt)
   dsimp only at g0 g1
   rw [← Hq.out] at g0 g1
   clear hc
   go_wp2
   go_round
   case rel=>exact ⟨j + 1,_,by omega,by go_num,by have:=Hq.out; omega,rfl⟩
   case measure=>simp [intOf]; omega
  ·go_wp2
   go_ret
   exact ⟨ret_int (by have:=Hq.out; omega),rfl⟩
set_option maxRecDepth 100000 in
set_option maxHeartbeats 4000000 in
theorem heldHeldS_any (v:Value) (l:List HeldD) (k:Int) (w:World) (hv:Helds (In w) w v (markHs k l)) (hn:l.length ≤ 1048576) (hs:∀ x ∈ l,x.been.length ≤ 1048576) (h0:0 ≤ k) (h1:k ≤ 1125899906842624) :
  Calls Tryz.prog 105 #[v,.int .i64 k] w fun e w'=>e = .returned (.int .i64 (k + cntH l)) ∧ w' = w:=by
 obtain ⟨a,cap,rfl,hc⟩:=hv
 rw [markHs_length] at hc ⊢
 have hpos:∀ j,posH k l j ≤ k + (4 + 1048576) * j:=fun j=>by unfold posH; have:=cntH_le hs j; omega
 have hge:∀ j,k ≤ posH k l j:=fun j=>by unfold posH; omega
 have HPOS:=hide hpos
 have HGE:=hide hge
 have HS:=hide hs
 have HC:=hide hc
 obtain ⟨n,hn'⟩:∃ n,l.length = n:=⟨_,rfl⟩
 have HN:=hide hn'
 rw [hn'] at hn HC ⊢
 clear hc hs hpos hge hn'
 go_enter Tryz.func105,Tryz.ntmps105
 go_wp2
 go_loop [1,5] (fun kv i=>∃ (j:Nat) (q:Int),j ≤ n ∧ i = .int .i64 j ∧ q = posH k l j ∧ kv = .int .i64 q) (fun _ i=>n - (intOf i).toNat)
 case atStart=>exact ⟨0,_,Nat.zero_le _,rfl,(posH_zero _ _).symm,rfl⟩
 case round=>
  obtain ⟨j,q,hj,rfl,hq,rfl⟩:=hrel
  have Hq:=hide hq
  have hq2:q ≤ 1125899906842624 + 1048580 * 1048576:=by have:=HPOS.out j; omega
  have hq0:0 ≤ q:=by have:=HGE.out j; omega
  clear hq
  by_cases hlt:j < n
  ·obtain z0 | ⟨b,off,rfl,hb0,hc⟩:=HC.out
   ·omega
   obtain ⟨x,hx⟩:=lt_get l (i:=j) (by rw [HN.out]; exact hlt)
   have hxl:x.been.length ≤ 1048576:=HS.out x (List.mem_of_getElem? hx)
   obtain ⟨v2,hb2,g0,g1,g2,g3,g4⟩:=hc j hlt _ (markHs_get hx)
   rw [← Hq.out] at hb2 g0 g1 g3 g4
   unfold markH at hb2 g0 g1 g3 g4
   dsimp only at hb2 g0 g1 g3 g4
   unfold m3 at g3
   have HX:=hide hx
   have HB2:=hide hb2
   obtain ⟨a2,c2,rfl,-⟩:=hb2
   rw [marksB_length] at g2 HB2
   clear hc hx
   go_wp2_with fail
   refine (heldBoolS_any _ x.been.length (q + 1 + 1) _ HB2.out hxl (by omega) (by omega)).mono ?_
   rintro e w3 ⟨rfl,rfl⟩
   go_wp2
   go_round
   case rel=>exact ⟨j + 1,_,by omega,by go_num,by have:=posH_succ (k:=k) HX.out; have:=Hq.out; omega,rfl⟩
   case measure=>simp [intOf]; omega
  ·go_wp2
   go_ret
   have hjn:j = n:=by omega
   subst hjn
   exact ⟨ret_int (by rw [Hq.out]; exact posH_end (by rw [HN.out]; exact Nat.le_refl _)),rfl⟩
def FrameM (B0:Nat) (w:World) (v1 v2 v3:Value) (d:FrameD):Prop:=
 (∃ bo bp bw bb,OFrame (fun c=>B0 ≤ c) w v1 v2 v3 d bo bp bw bb) ∨ (v1 = .slice none 0 0 ∧ v2 = .slice none 0 0 ∧ v3 = .slice none 0 0 ∧ d.occ = [] ∧ d.points = [] ∧ d.ways = [])
theorem FrameM.read {B0:Nat} {w:World} {v1 v2 v3:Value} {d:FrameD} (h:FrameM B0 w v1 v2 v3 d):FrameAt (In w) w v1 v2 v3 d:=by
 rcases h with ⟨bo,bp,bw,bb,h⟩ | ⟨rfl,rfl,rfl,e1,e2,e3⟩
 ·exact (h.bound (Q:=In w) fun c _ hc=>hc).read
 ·exact ⟨⟨_,_,by rw [e1]; rfl,.inl (by rw [e1]; rfl)⟩,⟨_,_,by rw [e2]; rfl,.inl (by rw [e2]; rfl)⟩,⟨_,_,by rw [e3]; rfl,.inl (by rw [e3]; rfl)⟩⟩
theorem FrameM.but {B0 B1:Nat} {w w':World} {v1 v2 v3:Value} {d:FrameD} (h:FrameM B0 w v1 v2 v3 d) (e:But (fun c=>B0 ≤ c) w w') (hB:B1 ≤ B0):FrameM B1 w' v1 v2 v3 d:=by
 rcases h with ⟨bo,bp,bw,bb,h⟩ | h
 ·exact .inl ⟨bo,bp,bw,bb,h.but e (fun _ z=>z) fun _ z=>Nat.le_trans hB z⟩
 ·exact .inr h
theorem FrameM.call {B0:Nat} {w w':World} {v1 v2 v3:Value} {d:FrameD} (h:FrameM B0 w v1 v2 v3 d) (e:Below w.heap.size w w'):FrameM B0 w' v1 v2 v3 d:=h.but (But.of_calls e) (Nat.le_refl _)
theorem FrameM.slices {B0:Nat} {w:World} {v1 v2 v3:Value} {d:FrameD} (h:FrameM B0 w v1 v2 v3 d):∃ a1 c1 a2 c2 a3 c3,v1 = .slice a1 d.occ.length c1 ∧ v2 = .slice a2 d.points.length c2 ∧ v3 = .slice a3 d.ways.length c3:=by
 obtain ⟨⟨a1,c1,e1,-⟩,⟨a2,c2,e2,-⟩,⟨a3,c3,e3,-⟩⟩:=h.read
 exact ⟨a1,c1,a2,c2,a3,c3,e1,e2,e3⟩
def FrameP (P:Nat → Prop) (w:World) (v1 v2 v3:Value) (d:FrameD):Prop:=
 (∃ bo bp bw bb,OFrame P w v1 v2 v3 d bo bp bw bb) ∨ (v1 = .slice none 0 0 ∧ v2 = .slice none 0 0 ∧ v3 = .slice none 0 0 ∧ d.occ = [] ∧ d.points = [] ∧ d.ways = [])
theorem FrameP.read {P:Nat → Prop} {w:World} {v1 v2 v3:Value} {d:FrameD} (h:FrameP P w v1 v2 v3 d):FrameAt P w v1 v2 v3 d:=by
 rcases h with ⟨bo,bp,bw,bb,h⟩ | ⟨rfl,rfl,rfl,e1,e2,e3⟩
 ·exact h.read
 ·exact ⟨⟨_,_,by rw [e1]; rfl,.inl (by rw [e1]; rfl)⟩,⟨_,_,by rw [e2]; rfl,.inl (by rw [e2]; rfl)⟩,⟨_,_,by rw [e3]; rfl,.inl (by rw [e3]; rfl)⟩⟩
theorem FrameP.there {P:Nat → Prop} {w:World} {v1 v2 v3:Value} {d:FrameD} (h:FrameP P w v1 v2 v3 d):FrameP (fun c=>P c ∧ c < w.heap.size) w v1 v2 v3 d:=by
 rcases h with ⟨bo,bp,bw,bb,h⟩ | h
 ·exact .inl ⟨bo,bp,bw,bb,h.bound fun _ h1 h2=>⟨h1,h2⟩⟩
 ·exact .inr h
theorem FrameP.but {P Q K:Nat → Prop} {w w':World} {v1 v2 v3:Value} {d:FrameD} (h:FrameP P w v1 v2 v3 d) (e:But K w w') (hk:∀ c,P c → K c) (hq:∀ c,P c → Q c):FrameP Q w' v1 v2 v3 d:=by
 rcases h with ⟨bo,bp,bw,bb,h⟩ | h
 ·exact .inl ⟨bo,bp,bw,bb,h.but e hk hq⟩
 ·exact .inr h
end Go.Proofs.YtdhinkgjiapigabGreatDoor
namespace Go.Proofs.YtdhinkgjiapigabGreatDoor
open Go.RowKit Go.Deep
theorem rowIs_type {w:World} {b t t' n n':Nat} {f f':Nat → Value} (h:w.rowIs b t n f) (g:w.rowIs b t' n' f'):t = t':=by
 obtain ⟨x,hx,-⟩:=h
 obtain ⟨y,hy,-⟩:=g
 rw [hx] at hy
 cases hy
 rfl
theorem OBools.row {w:World} {v:Value} {l:List Bool} {b:Nat} (h:OBools w v l b):∃ N f,w.rowIs b 4 N f:=by
 obtain ⟨f,N,c,-,hr,-⟩:=h
 exact ⟨N,f,hr⟩
theorem OHelds.been {w:World} {v:Value} {l:List HeldD} {bw:Nat} {bb:Nat → Nat} (h:OHelds w v l bw bb) {i:Nat} (hi:i < l.length):∃ N f,w.rowIs (bb i) 4 N f:=by
 obtain ⟨a,cap,-,h0 | ⟨-,f,N,hr,-,hf⟩⟩:=h
 ·omega
 ·obtain ⟨y,hy⟩:=lt_get l hi
  exact (hf i y hy).2.2.1.row
theorem OHelds.row {w:World} {v:Value} {l:List HeldD} {bw:Nat} {bb:Nat → Nat} (h:OHelds w v l bw bb) (hi:l.length ≠ 0):∃ N f,w.rowIs bw 93 N f:=by
 obtain ⟨a,cap,-,h0 | ⟨-,f,N,hr,-⟩⟩:=h
 ·omega
 ·exact ⟨N,f,hr⟩
theorem OPoints.row {w:World} {v:Value} {l:List (Int × Int)} {b:Nat} (h:OPoints w v l b) (hi:l.length ≠ 0):∃ N f,w.rowIs b 90 N f:=by
 obtain ⟨a,cap,-,h0 | ⟨-,f,N,hr,-⟩⟩:=h
 ·omega
 ·exact ⟨N,f,hr⟩
theorem OFrame.setOcc {P:Nat → Prop} {w w':World} {v1 v2 v3:Value} {d:FrameD} {bo bp bw:Nat} {bb:Nat → Nat} {l:List Bool} (h:OFrame P w v1 v2 v3 d bo bp bw bb) (hb:But (fun c=>c ≠ bo) w w') (ho:OBools w' v1 l bo):OFrame P w' v1 v2 v3 { d with occ:=l } bo bp bw bb:=by
 obtain ⟨No,fo,hro⟩:=h.occ.row
 refine ⟨ho,h.points.but hb fun z e=>?_,h.ways.but hb (fun z e=>?_) fun i hi=>h.off i hi,h.po,h.pp,h.pw,h.pb,h.inj,h.off⟩
 ·obtain ⟨N,f,hr⟩:=h.points.row z
  rw [e] at hr
  exact absurd (rowIs_type hr hro) (by decide)
 ·obtain ⟨N,f,hr⟩:=h.ways.row z
  rw [e] at hr
  exact absurd (rowIs_type hr hro) (by decide)
theorem OFrame.apart {P:Nat → Prop} {w:World} {v1 v2 v3:Value} {d:FrameD} {bo bp bw:Nat} {bb:Nat → Nat} (h:OFrame P w v1 v2 v3 d bo bp bw bb):∃ bp',OFrame P w v1 v2 v3 d bo bp' bw bb ∧ bp' ≠ bo ∧ (d.ways.length ≠ 0 → bp' ≠ bw) ∧ (∀ i,i < d.ways.length → bp' ≠ bb i) ∧ ((d.points.length = 0 ∧ bp' = w.heap.size) ∨ d.points.length ≠ 0):=by
 rcases Nat.eq_zero_or_pos d.points.length with e | e
 ·refine ⟨w.heap.size,⟨h.occ,?_,h.ways,h.po,fun z=>absurd e z,h.pw,h.pb,h.inj,h.off⟩,?_,fun z=>?_,fun i hi=>?_,.inl ⟨e,rfl⟩⟩
  ·obtain ⟨a,cap,hv,-⟩:=h.points
   exact ⟨a,cap,hv,.inl e⟩
  ·have:=h.occ.lt; omega
  ·obtain ⟨N,f,hr⟩:=h.ways.row z
   have:=hr.lt; omega
  ·obtain ⟨N,f,hr⟩:=h.ways.been hi
   have:=hr.lt; omega
 ·obtain ⟨N,f,hr⟩:=h.points.row (by omega)
  refine ⟨bp,h,fun q=>?_,fun z q=>?_,fun i hi q=>?_,.inr (by omega)⟩
  ·obtain ⟨N',f',hr'⟩:=h.occ.row
   rw [← q] at hr'
   exact absurd (rowIs_type hr hr') (by decide)
  ·obtain ⟨N',f',hr'⟩:=h.ways.row z
   rw [← q] at hr'
   exact absurd (rowIs_type hr hr') (by decide)
  ·obtain ⟨N',f',hr'⟩:=h.ways.been hi
   rw [← q] at hr'
   exact absurd (rowIs_type hr hr') (by decide)
theorem OFrame.setPoints {P:Nat → Prop} {w w':World} {v1 v2 v3:Value} {d:FrameD} {bo bp bw:Nat} {bb:Nat → Nat} {l:List (Int × Int)} (h:OFrame P w v1 v2 v3 d bo bp bw bb) (h1:bp ≠ bo) (h2:d.ways.length ≠ 0 → bp ≠ bw) (h3:∀ i,i < d.ways.length → bp ≠ bb i) (hb:But (fun c=>c ≠ bp) w w') (hp:OPoints w' v2 l bp) (hl:l.length = d.points.length):OFrame P w' v1 v2 v3 { d with points:=l } bo bp bw bb:=
 ⟨h.occ.but hb (Ne.symm h1),hp,h.ways.but hb (fun z=>Ne.symm (h2 z)) fun i hi=>Ne.symm (h3 i hi),h.po,fun z=>h.pp (by rw [← hl]; exact z),h.pw,h.pb,h.inj,h.off⟩
set_option maxHeartbeats 1000000 in
theorem markHelds_none (v:Value) (k:Int) (w:World) (hv:Emp v) (_h0:0 ≤ k):Calls Tryz.prog 97 #[v,.int .i64 k] w fun e w'=>e = .returned (.int .i64 k) ∧ w' = w:=by
 obtain ⟨a,c,rfl⟩:=hv
 go_enter Tryz.func97,Tryz.ntmps97
 go_wp2
 go_loopw [1,5] (fun kv i wr=>i = .int .i64 0 ∧ kv = .int .i64 k ∧ wr = w) (fun _ _ _=>0)
 case atStart=>exact ⟨rfl,rfl,rfl⟩
 case round=>
  obtain ⟨rfl,rfl,rfl⟩:=hrel
  go_wp2
  go_ret
  exact ⟨rfl,rfl⟩
theorem cntF_nn (d:FrameD):0 ≤ cntF d:=by unfold cntF; omega
theorem cntH_small {l:List HeldD} (hn:l.length ≤ 1048576) (hs:∀ x ∈ l,x.been.length ≤ 1048576):cntH l ≤ 1099515822080:=by
 have:=cntH_le hs l.length
 rw [List.take_of_length_le (Nat.le_refl _)] at this
 have h2:(4 + 1048576) * l.length ≤ (4 + 1048576) * 1048576:=Nat.mul_le_mul_left _ hn
 omega
set_option maxRecDepth 100000 in
set_option maxHeartbeats 2000000 in
theorem markFrameP_any (P:Nat → Prop) (ok v1 v2 v3:Value) (d:FrameD) (k:Int) (w:World) (hf:FrameP P w v1 v2 v3 d) (hB:∀ c,w.heap.size ≤ c → P c) (hs:d.Small 1048576) (h0:0 ≤ k) (h1:k ≤ 1099511627776) :
  Calls Tryz.prog 26 #[.agg #[ok,v1,v2,v3],.int .i64 k] w fun e w'=>e = .returned (.int .i64 (k + cntF d)) ∧ FrameP P w' v1 v2 v3 (markF k d) ∧ But (fun c=>¬ P c) w w':=by
 have T0:=boxes1 w 42 #[ok,v1,v2,v3]
 rcases hf with ⟨bo,bp,bw,bb,hf⟩ | ⟨rfl,rfl,rfl,e1,e2,e3⟩
 case inr=>
  have b1:=T0.cell (j:=0) (i:=1) rfl rfl
  have b2:=T0.cell (j:=0) (i:=2) rfl rfl
  have b3:=T0.cell (j:=0) (i:=3) rfl rfl
  rw [Nat.add_zero] at b1 b2 b3
  have HT:=hide T0.below
  clear hs T0
  have hF:FrameP P (w.alloc (.cells #[ok,.slice none 0 0,.slice none 0 0,.slice none 0 0] 42)) (.slice none 0 0) (.slice none 0 0) (.slice none 0 0) (markF k d):=.inr ⟨rfl,rfl,rfl,by unfold markF; rw [e1]; rfl,by unfold markF; rw [e2]; rfl,by unfold markF; rw [e3]; rfl⟩
  have hC:cntF d = 0:=by unfold cntF cntH; rw [e1,e2,e3]; rfl
  have HF:=hide hF
  have HC:=hide hC
  clear hF hC e1 e2 e3
  go_enter Tryz.func26,Tryz.ntmps26
  go_wp2_with fail
  refine (markBools_none _ k _ ⟨_,_,rfl⟩ h0).mono ?_
  rintro e w1 ⟨rfl,rfl⟩
  go_wp2_with fail
  have hsz:w.heap.size < (w.alloc (.cells #[ok,.slice none 0 0,.slice none 0 0,.slice none 0 0] 42)).heap.size:=by simp
  refine (markPointsO_any _ [] (w.heap.size + 1) k _ ⟨_,_,rfl,.inl rfl⟩ (by simp) h0 (by omega)).mono ?_
  rintro e w2 ⟨rfl,-,hB2⟩
  replace b3:=hB2.cell b3 (show w.heap.size ≠ w.heap.size + 1 by omega)
  have HF2:Hid (FrameP P w2 (.slice none 0 0) (.slice none 0 0) (.slice none 0 0) (markF k d)):=by
   rcases HF.out with ⟨_,_,_,_,h⟩ | h
   ·obtain ⟨_,_,_,hz,-⟩:=h.occ
    cases hz
   ·exact .inr h
  have HB2:Hid (But (fun c=>¬ P c) w w2):=(But.of_calls (K:=fun c=>¬ P c) HT.out).trans (hB2.mono fun c hc hz e2=>by simp at hc; omega)
  clear HF hB2 HT hsz b1 b2
  rw [show k + 2 * (([]:List (Int × Int)).length:Int) = k by simp]
  go_wp2_with fail
  refine (markHelds_none _ k _ ⟨_,_,rfl⟩ h0).mono ?_
  rintro e w3 ⟨rfl,rfl⟩
  go_wp2
  go_ret
  exact ⟨ret_int (by rw [HC.out,Int.add_zero]),HF2.out,HB2.out⟩
 obtain ⟨hs1,hs2,hs3,hs4⟩:=hs
 have hbo:bo < w.heap.size:=hf.occ.lt
 obtain ⟨a1,z1,e1⟩:∃ a c,v1 = .slice a d.occ.length c:=by obtain ⟨f,N,c,e,-⟩:=hf.occ; exact ⟨_,_,e⟩
 obtain ⟨a2,z2,e2⟩:∃ a c,v2 = .slice a d.points.length c:=by obtain ⟨a,c,e,-⟩:=hf.points; exact ⟨_,_,e⟩
 obtain ⟨a3,z3,e3⟩:∃ a c,v3 = .slice a d.ways.length c:=by obtain ⟨a,c,e,-⟩:=hf.ways; exact ⟨_,_,e⟩
 subst e1 e2 e3
 have b2:=T0.cell (j:=0) (i:=2) rfl rfl
 have b3:=T0.cell (j:=0) (i:=3) rfl rfl
 rw [Nat.add_zero] at b2 b3
 have hf0:=hf.but (K:=fun _=>True) (Q:=P) (But.of_calls T0.below) (fun _ _=>trivial) fun _ z=>z
 have HB0:Hid (But (fun c=>¬ P c) w (w.alloc (.cells #[ok,.slice a1 d.occ.length z1,.slice a2 d.points.length z2,.slice a3 d.ways.length z3] 42))):=But.of_calls T0.below
 have HF0:=hide hf0
 have HS4:=hide hs4
 clear hf hf0 T0 hs4
 go_enter Tryz.func26,Tryz.ntmps26
 go_wp2_with fail
 refine (markBools_own _ d.occ bo k _ HF0.out.occ hs1 h0 (by omega)).mono ?_
 rintro e w1 ⟨rfl,hO1,hB1⟩
 replace b2:=hB1.cell b2 (show w.heap.size ≠ bo by omega)
 replace b3:=hB1.cell b3 (show w.heap.size ≠ bo by omega)
 have hf1:=HF0.out.setOcc hB1 hO1
 have HB1:=hide (HB0.out.trans (hB1.mono fun c _ hc e=>hc (e ▸ HF0.out.po)))
 obtain ⟨bq,hfq,q1,q2,q3,q4⟩:=hf1.apart
 have hbq:w.heap.size ≠ bq:=by
  rcases q4 with ⟨-,e⟩ | e
  ·have:=hB1.size; simp at this; omega
  ·intro e2
   obtain ⟨N,f,hr⟩:=hfq.points.row e
   have h8:=World.rowIs_alloc w #[ok,.slice a1 d.occ.length z1,.slice a2 d.points.length z2,.slice a3 d.ways.length z3] 42 (fun i=>#[ok,.slice a1 d.occ.length z1,.slice a2 d.points.length z2,.slice a3 d.ways.length z3][i]!) fun i hi=>by rw [getElem!_pos _ i hi]; exact Array.getElem?_eq_getElem hi
   have h9:=hB1.row h8 (show w.heap.size ≠ bo by omega)
   rw [← e2] at hr
   exact absurd (rowIs_type hr h9) (by decide)
 have HFQ:=hide hfq
 have HQ:=hide (And.intro q1 (And.intro q2 q3))
 have hPB:P bq:=by
  rcases q4 with ⟨-,e⟩ | e
  ·exact hB _ (by rw [e]; exact HB1.out.size)
  ·exact hfq.pp e
 clear HF0 HB0 hO1 hB1 hf1 hfq q1 q2 q3 q4
 go_wp2_with fail
 refine (markPointsO_any _ d.points bq (k + d.occ.length) _ HFQ.out.points hs2 (by omega) (by omega)).mono ?_
 rintro e w2 ⟨rfl,hP2,hB2⟩
 replace b3:=hB2.cell b3 hbq
 have hf2:=HFQ.out.setPoints HQ.out.1 HQ.out.2.1 HQ.out.2.2 hB2 hP2 (marksP_length _ _)
 have HF2:=hide hf2
 have HB2:Hid (But (fun c=>¬ P c) w w2):=HB1.out.trans (hB2.mono fun c _ hc e2=>hc (e2 ▸ hPB))
 have hsz2:∀ c,w2.heap.size ≤ c → P c:=fun c hc=>hB c (Nat.le_trans HB2.out.size hc)
 clear HFQ HQ hP2 hB2 HB1 hf2 b2
 go_wp2_with fail
 refine (markHeldsO_any P _ _ _ _ bo bq bw bb (k + d.occ.length + 2 * d.points.length) _ HF2.out hsz2 hs3 HS4.out (by omega) (by omega)).mono ?_
 rintro e w3 ⟨rfl,bb',hf3,hB3⟩
 have HFIN:=hide (And.intro hf3 (HB2.out.trans hB3))
 clear HF2 HB2 hf3 hB3
 go_wp2
 go_ret
 exact ⟨ret_int (by unfold cntF; omega),.inl ⟨bo,bq,bw,bb',HFIN.out.1⟩,HFIN.out.2⟩
set_option maxRecDepth 100000 in
set_option maxHeartbeats 2000000 in
theorem heldFrame_any (ok v1 v2 v3:Value) (d:FrameD) (k:Int) (w:World) (hf:FrameAt (In w) w v1 v2 v3 (markF k d)) (hs:d.Small 1048576) (h0:0 ≤ k) (h1:k ≤ 1099511627776) :
  Calls Tryz.prog 98 #[.agg #[ok,v1,v2,v3],.int .i64 k] w fun e w'=>e = .returned (.int .i64 (k + cntF d)) ∧ Below w.heap.size w w':=by
 have T0:=boxes1 w 42 #[ok,v1,v2,v3]
 have hk:=hf.keep (Q:=In (w.alloc (.cells #[ok,v1,v2,v3] 42))) (In.keep T0.below).1 (In.keep T0.below).2
 have HF:=hide hk
 obtain ⟨a1,z1,rfl⟩:=hf.1.size
 obtain ⟨a2,z2,rfl⟩:=hf.2.1.size
 obtain ⟨a3,z3,rfl⟩:=hf.2.2.size
 have b2:=T0.cell (j:=0) (i:=2) rfl rfl
 have b3:=T0.cell (j:=0) (i:=3) rfl rfl
 rw [Nat.add_zero] at b2 b3
 obtain ⟨hs1,hs2,hs3,hs4⟩:=hs
 have hc:=cntH_small hs3 hs4
 have HT:=hide T0.below
 have HS4:=hide hs4
 clear hf hk T0 hs4
 go_enter Tryz.func98,Tryz.ntmps98
 go_wp2_with fail
 refine (heldBoolS_any _ d.occ.length k _ HF.out.1 hs1 h0 (by omega)).mono ?_
 rintro e w1 ⟨rfl,rfl⟩
 have t1:decide (k + (d.occ.length:Int) < 0) = false:=by simp; omega
 go_wp2_with fail
 refine (heldPointS_any _ d.points.length (k + d.occ.length) _ HF.out.2.1 hs2 (by omega) (by omega)).mono ?_
 rintro e w2 ⟨rfl,rfl⟩
 have t2:decide (k + (d.occ.length:Int) + 2 * (d.points.length:Int) < 0) = false:=by simp; omega
 go_wp2_with fail
 refine (heldHeldS_any _ d.ways (k + d.occ.length + 2 * d.points.length) _ HF.out.2.2 hs3 HS4.out (by omega) (by omega)).mono ?_
 rintro e w3 ⟨rfl,rfl⟩
 have t3:decide (k + (d.occ.length:Int) + 2 * (d.points.length:Int) + (cntH d.ways:Int) < 0) = false:=by simp; omega
 go_wp2
 go_ret
 exact ⟨ret_int (by unfold cntF; omega),HT.out⟩
end Go.Proofs.YtdhinkgjiapigabGreatDoor
