/- Parts. -/
import Derived.Test.YtacgbldlonoaaaaGreatDoorRa16
namespace Go.Proofs.YtacgbldlonoaaaaGreatDoor
set_option maxHeartbeats 4000000
set_option maxRecDepth 100000
open Go.RowKit
open Mth
theorem kS {P:Program} (w:World) (dT sT ty elem:TypeId) (sz:Nat) (g o dLen dCap:Nat) (a:Addr) (sLen sCap:Nat) (cur:Array Value) (t:TypeId) (cs:List Value)
 (hu:P.underlying dT=some (.slice elem)) (hs:(P.info? elem).map (·.size)=some sz)
 (hg:w.heap[g]?=some (.cells cur t (0,0))) (hn:cs.length=Nat.min sLen dLen*sz)
 (hsrc:∀j v,cs[j]?=some v→w.cell? (a.add j)=some v) (hfit:o+cs.length≤cur.size) (h1:∀v∈cs,v.oneCell'=true):
 (Builtin.copy_ #[dT,sT] ty #[.slice (some ⟨g,o,none⟩) dLen dCap,.slice (some a) sLen sCap]).run P w=
  .ok (goInt (Nat.min sLen dLen)) (w.setRow g (cur.toList.take o++cs++cur.toList.drop (o+cs.length)).toArray):=by
 have hl:=run_loadCells_list (P:=P) w a cs hsrc;have hst:=run_storeCells_at P g o t cs 0 cur w hg (by simpa using hfit) h1;cases hq:P.info? elem with
 |none=>simp[hq] at hs
 |some i=>
  have hi:i.size=sz:=by simpa [hq] using hs
  rw [hn] at hl
  simp[Builtin.copy_,run_underlying hu,Builtin.lenOf,Builtin.firstCells,sizeOf,typeInfo,hq,hi,hl,hst]
theorem Kj:(Tryz.prog.info? 97).map (fun i=>(i.zero,i.size,i.bytes))=some (some (.agg #[.int .i64 0,.string ByteArray.empty,.int .i64 0,.int .i64 0]),4,40):=by kernel_rfl
theorem EO:(Tryz.prog.info? 97).map (·.size)=some 4:=by kernel_rfl
def Dy (w:World) (B:Nat) (v:Value) (l:List Rq) (e:Ending) (w':World):Prop:=
 ∃a cp,e= .returned (.slice a l.length cp)∧w'.ownsRow B 97 4 (.slice a l.length cp) l.length (GR.flat aK l)∧w.grownBy w' v.ownBlock∧∀x,(Value.slice a l.length cp).ownBlock=some x→v.ownBlock=some x∨w.heap.size≤x
theorem Kk (B:Nat) (a:Option Addr) (cap:Nat) (l:List Rq) (q:Rq) (vb:Nat) (w:World) (hl:l.length≤1000) (hB:B≤w.heap.size) (ho:w.ownsRow B 97 4 (.slice a l.length cap) l.length (GR.flat aK l)) (hv:w.heap[vb]?=some (.cells #[.int .i64 q.no,.string q.k,.int .i64 q.n,.int .i64 q.s] 97 (0,0))):
 Calls Tryz.prog 189 #[.slice a l.length cap,.int .i64 l.length,.slice (some ⟨vb,0,none⟩) 1 1] w (Dy w B (.slice a l.length cap) (l++[q])):=by
 obtain⟨i0,hi,hz0,hz1,hz2⟩:=info_parts Kj;obtain⟨v',w',hr,h2,h3,h4⟩:=fu w B 28 28 97 i0 _ 4 40 Tryz.underlying28 hi hz0 hz1 hz2 rfl (by decide) (.slice a l.length cap) l.length (GR.flat aK l) ho ⟨vb,0,none⟩ 1 1 (aK q) rfl (World.news_of_block hv) (lX q) (by unfold maxLen;omega) (by omega) hB;obtain⟨a2,c2,he,_⟩:=GR.own_at (enc:=aK) (sz:=4) (l:=l++[q]) aY (by rw [List.length_append,fV];exact h2);rw [List.length_append] at he;have he2:v'= .slice a2 (l.length+1) c2:=he;subst he2
 have hle:l.length≤cap∨(a=none∧l.length=0∧cap=0):=by
  rcases ho.2 with⟨hx,hy⟩|⟨g,cp,cur,hx,_,_,hc,_⟩
  ·simp only[Value.slice.injEq] at hx;exact .inr ⟨hx.1,hy,hx.2.2⟩
  ·simp only[Value.slice.injEq] at hx;exact .inl (by omega)
 have hcap:l.length≤cap:=by rcases hle with h|h<;>omega
 have hcm:cap≤9223372036854775807:=by
  rcases ho.2 with⟨hx,hy⟩|⟨g,cp,cur,hx,_,_,_,hc,_⟩
  ·simp only[Value.slice.injEq] at hx;omega
  ·simp only[Value.slice.injEq] at hx;unfold maxLen at hc;omega
 have H:=hide (show Dy w B (.slice a l.length cap) (l++[q]) (.returned (.slice a2 (l.length+1) c2)) w' from⟨a2,c2,by rw [List.length_append];rfl,by rw [List.length_append,fV];exact h2,h3,by rw [List.length_append];exact h4⟩);have hq:((l.length:Int) == (l.length:Int))=true:=by simp
 clear h2 h3 h4 ho hv hi hz0 hz1 hz2 hle he;cases a with
 |none=>
  go_enter Tryz.func189,Tryz.ntmps189
  go_wp2_with (at_builtin;refine Lib.wpList_append_run _ rfl _ _ _ _ rfl _ _ rfl rfl _ _ hr ?_)
  go_ret
  exact H
 |some ad=>
  go_enter Tryz.func189,Tryz.ntmps189
  go_wp2_with (at_builtin;refine Lib.wpList_append_run _ rfl _ _ _ _ rfl _ _ rfl rfl _ _ hr ?_)
  all_goals
   try go_wp2_with (at_builtin;refine Lib.wpList_append_run _ rfl _ _ _ _ rfl _ _ rfl rfl _ _ hr ?_)
   go_ret
   exact H
theorem fU (l:List Rq):(GR.flat aK l).length=l.length*4:=GR.flat_length aK 4 aY l
theorem nT (l:List Rq) (i:Nat) (hi:i≤l.length):(GR.flat aK l).take (i*4)=GR.flat aK (l.take i)∧(GR.flat aK l).drop (i*4)=GR.flat aK (l.drop i):=by
 have e:GR.flat aK l=GR.flat aK (l.take i)++GR.flat aK (l.drop i):=by rw [←GR.flat_append,List.take_append_drop]
 have hlen:(GR.flat aK (l.take i)).length=i*4:=by rw [fU,List.length_take,Nat.min_eq_left hi]
 rw [e,←hlen,List.take_left,List.drop_left];exact⟨rfl,rfl⟩
def ou (cur:List Value) (l:List Rq) (i:Nat):List Value:=cur.take ((i+1)*4)++GR.flat aK (l.drop i)++cur.drop ((i+1)*4+(l.length - i)*4)
def EK (cur:List Value) (l:List Rq) (i:Nat) (q:Rq):List Value:=(ou cur l i).take (i*4)++aK q++(ou cur l i).drop (i*4+4)
theorem Iz (cur:List Value) (l:List Rq) (i:Nat) (hi:i < l.length) (hc:(l.length+1)*4≤cur.length):(ou cur l i).length=cur.length:=by
 unfold ou;exact Zl
theorem Ti (cur:List Value) (l:List Rq) (i:Nat) (q:Rq) (hi:i < l.length) (hc:(l.length+1)*4≤cur.length):(EK cur l i q).length=cur.length:=by
 have h1:=Iz cur l i hi hc;unfold EK;exact Zr
theorem OA (cur:List Value) (l:List Rq) (i:Nat) (q:Rq) (hi:i < l.length) (hc:(l.length+1)*4≤cur.length) (ht:cur.take (l.length*4)=GR.flat aK l):(EK cur l i q).take ((l.length+1)*4)=GR.flat aK (l.take i++q::l.drop i):=by
 have e1:(ou cur l i).take (i*4)=GR.flat aK (l.take i):=by
  unfold ou;rw [List.append_assoc,List.take_append_of_le_length (by rw [List.length_take];omega),List.take_take,Nat.min_eq_left (by omega),←(nT l i (by omega)).1,←ht,List.take_take,Nat.min_eq_left (by omega)]
 have hl1:(cur.take ((i+1)*4)).length=i*4+4:=by rw [List.length_take];omega
 have e2:(ou cur l i).drop (i*4+4)=GR.flat aK (l.drop i)++cur.drop ((i+1)*4+(l.length - i)*4):=by
  unfold ou;rw [List.append_assoc,←hl1,List.drop_left]
 have hd:(GR.flat aK (l.drop i)).length=(l.length - i)*4:=by rw [fU,List.length_drop]
 have ht2:(GR.flat aK (l.take i)).length=i*4:=by rw [fU,List.length_take,Nat.min_eq_left (by omega)]
 unfold EK;rw [e1,e2,GR.flat_append,GR.flat_cons,←List.append_assoc];rw [show(l.length+1)*4=(GR.flat aK (l.take i)++aK q++GR.flat aK (l.drop i)).length by rw [List.length_append,List.length_append,hd,ht2];show _=_+4+_;omega,List.take_left];rw [List.append_assoc]
theorem Ew (g cap i:Nat) (l:List Rq) (q:Rq) (vb:Nat) (w:World) (cur:Array Value) (hl:l.length≤1000) (hi:i < l.length) (hroom:l.length+1≤cap) (hcm:cap≤maxLen) (hvb:vb≠g) (hblk:w.heap[g]?=some (.cells cur 97 (0,0))) (hcs:cur.size=cap*4) (htake:cur.toList.take (l.length*4)=GR.flat aK l) (hv:w.heap[vb]?=some (.cells #[.int .i64 q.no,.string q.k,.int .i64 q.n,.int .i64 q.s] 97 (0,0))):
 Calls Tryz.prog 189 #[.slice (some ⟨g,0,none⟩) l.length cap,.int .i64 i,.slice (some ⟨vb,0,none⟩) 1 1] w fun e w'=>
  e= .returned (.slice (some ⟨g,0,none⟩) (l.length+1) cap)∧w'.heap[g]?=some (.cells (EK cur.toList l i q).toArray 97 (0,0))∧w.grownBy w' (some g):=by
 have hcl:(l.length+1)*4≤cur.toList.length:=by rw [show cur.toList.length=cur.size from Array.length_toList,hcs];omega
 have hdl:(GR.flat aK (l.drop i)).length=(l.length - i)*4:=by rw [fU,List.length_drop]
 have hcp1:∀ty dl sl dc sc,dl=l.length - i→sl=l.length+1 - i→(Builtin.copy_ #[28,28] ty #[.slice (some ⟨g,(i+1)*4,none⟩) dl dc,.slice (some ⟨g,i*4,none⟩) sl sc]).run Tryz.prog w.drew= .ok (goInt ((l.length - i:Nat):Int)) (w.drew.setRow g (ou cur.toList l i).toArray):=fun ty dl sl dc sc e1 e2=>by
  subst e1 e2
  have h:=kS (P:=Tryz.prog) w.drew 28 28 ty 97 4 g ((i+1)*4) (l.length - i) dc ⟨g,i*4,none⟩ (l.length+1 - i) sc cur 97 (GR.flat aK (l.drop i)) Tryz.underlying28 EO hblk (by rw [hdl];simp only[Nat.min_def];split<;>omega)
   (fun j v hj=>by
    rw [Addr.add_lit]
    have h1:(GR.flat aK l)[i*4+j]?=some v:=by rw [←List.getElem?_drop,(nT l i (by omega)).2];exact hj
    rw [←htake,List.getElem?_take] at h1
    split at h1
    ·have h2:w.drew.cell? ⟨g,i*4+j,none⟩=cur[i*4+j]?:=cell_of_row w.drew g (i*4+j) cur 97 (0,0) hblk;rw [h2,←Array.getElem?_toList];exact h1
    ·cases h1)
   (by rw [hdl,hcs];omega) (fun v hv=>gI _ v hv)
  rw [hdl,show Nat.min (l.length+1 - i) (l.length - i)=l.length - i by simp only[Nat.min_def];split<;>omega] at h
  exact h
 have hr1:=Iz cur.toList l i hi hcl;have Rt:cur.toList.length=cap*4:=by rw [show cur.toList.length=cur.size from Array.length_toList,hcs]
 have abn:(w.drew.setRow g (ou cur.toList l i).toArray).heap[g]?=some (.cells (ou cur.toList l i).toArray 97 (0,0)):=setRow_heap w.drew g cur _ 97 _ hblk
 have hvr:∀j v,(aK q)[j]?=some v→(w.drew.setRow g (ou cur.toList l i).toArray).cell? ⟨vb,0+j,none⟩=some v:=fun j v hj=>by
  have h1:(w.drew.setRow g (ou cur.toList l i).toArray).heap[vb]?=w.heap[vb]?:=setRow_other w.drew g vb _ hvb
  rw [World.cell?_of_block (w:=w) (a:=⟨vb,0+j,none⟩) h1,←Addr.add_lit]
  exact World.news_of_block hv j v hj
 have hcp2:∀ty dl dc,dl=l.length+1 - i→(Builtin.copy_ #[28,28] ty #[.slice (some ⟨g,i*4,none⟩) dl dc,.slice (some ⟨vb,0,none⟩) 1 1]).run Tryz.prog (w.drew.setRow g (ou cur.toList l i).toArray)= .ok (goInt 1) ((w.drew.setRow g (ou cur.toList l i).toArray).setRow g (EK cur.toList l i q).toArray):=fun ty dl dc e1=>by
  subst e1
  have h:=kS (P:=Tryz.prog) (w.drew.setRow g (ou cur.toList l i).toArray) 28 28 ty 97 4 g (i*4) (l.length+1 - i) dc ⟨vb,0,none⟩ 1 1 (ou cur.toList l i).toArray 97 (aK q) Tryz.underlying28 EO abn (by show 4=_;simp only[Nat.min_def];split<;>omega)
   (fun j v hj=>by rw [Addr.add_lit];exact hvr j v hj)
   (by show i*4+4≤_;rw [List.size_toArray,hr1,Rt];omega) (lX q)
  rw [show Nat.min 1 (l.length+1 - i)=1 by simp only[Nat.min_def];split<;>omega] at h
  exact h
 have hfin:=hide (show((w.drew.setRow g (ou cur.toList l i).toArray).setRow g (EK cur.toList l i q).toArray).heap[g]?=some (.cells (EK cur.toList l i q).toArray 97 (0,0))∧w.grownBy ((w.drew.setRow g (ou cur.toList l i).toArray).setRow g (EK cur.toList l i q).toArray) (some g) from
  ⟨setRow_heap _ g (ou cur.toList l i).toArray _ 97 _ abn,⟨rfl,rfl,rfl,by simp,fun k _ hk=>(setRow_other _ g k _ (fun e=>hk (by rw [e]))).trans (setRow_other w.drew g k _ (fun e=>hk (by rw [e])))⟩⟩)
 have hov:∀lb cb,(callFunc 227 #[.slice (some ⟨vb,0,none⟩) 1 1,.slice (some ⟨g,(i+1)*4,none⟩) lb cb]).run Tryz.prog w= .ok (.value (.bool false)) w:=fun lb cb=>by
  rw [run_callFunc_extern Tryz.func227 (by kernel_rfl) (by kernel_rfl) (by kernel_rfl) (e:=Extern.SlicesOverlaps.overlaps #[28,28] #[4]) (by kernel_rfl),
   Lib.run_overlaps_apart w 28 4 97 Tryz.underlying28 4 (fun w=>by kernel_rfl) ⟨vb,0,none⟩ ⟨g,(i+1)*4,none⟩ 1 1 lb cb hvb 97 97 4 cur.size (by unfold World.shape?;rw [hv];rfl) (by unfold World.shape?;rw [hblk]) (by omega) (ay hv 0) (ay hv 4)]
  rfl
 open ajq in exact XZ
set_option maxHeartbeats 4000000
def vU (R:List Value) (i:Nat) (q:Rq):List Value:=R.take (i*4)++aK q++R.drop (i*4+4)
def BG (R:List Value) (l:List Rq) (i:Nat) (q:Rq):List Value:=(vU R i q).take ((i+1)*4)++GR.flat aK (l.drop i)++(vU R i q).drop ((i+1)*4+(l.length - i)*4)
theorem IB (R:List Value) (i:Nat) (q:Rq) (h:i*4+4≤R.length):(vU R i q).length=R.length:=by
 unfold vU;rw [List.length_append,List.length_append,List.length_take,List.length_drop];show _+4+_=_
 omega
theorem Tj (R:List Value) (l:List Rq) (i:Nat) (q:Rq) (hi:i < l.length) (h:(l.length+1)*4≤R.length):(BG R l i q).length=R.length:=by
 have h1:=IB R i q (by omega);unfold BG;rw [List.length_append,List.length_append,fU,List.length_take,List.length_drop,List.length_drop,h1];omega
theorem OC (R:List Value) (l:List Rq) (i:Nat) (q:Rq) (hi:i < l.length) (_h:(l.length+1)*4≤R.length) (ht:R.take (i*4)=GR.flat aK (l.take i)):(BG R l i q).take ((l.length+1)*4)=GR.flat aK (l.take i++q::l.drop i):=by
 have ht2:(GR.flat aK (l.take i)).length=i*4:=by rw [fU,List.length_take,Nat.min_eq_left (by omega)]
 have hd:(GR.flat aK (l.drop i)).length=(l.length - i)*4:=by rw [fU,List.length_drop]
 have e1:(vU R i q).take ((i+1)*4)=GR.flat aK (l.take i)++aK q:=by
  unfold vU;rw [ht];have:(i+1)*4=(GR.flat aK (l.take i)++aK q).length:=by rw [List.length_append,ht2];show _=_+4;omega
  rw [this,List.take_left]
 unfold BG;rw [e1,GR.flat_append,GR.flat_cons,←List.append_assoc];rw [show(l.length+1)*4=(GR.flat aK (l.take i)++aK q++GR.flat aK (l.drop i)).length by rw [List.length_append,List.length_append,hd,ht2];show _=_+4+_;omega,List.take_left]
theorem H7 (g cap i:Nat) (l:List Rq) (q:Rq) (vb:Nat) (w:World) (cur:Array Value) (hl:l.length≤1000) (hi:i < l.length) (hnc:l.length≤cap) (hroom:cap < l.length+1) (hblk:w.heap[g]?=some (.cells cur 97 (0,0))) (htake:cur.toList.take (l.length*4)=GR.flat aK l) (hv:w.heap[vb]?=some (.cells #[.int .i64 q.no,.string q.k,.int .i64 q.n,.int .i64 q.s] 97 (0,0))):
 Calls Tryz.prog 189 #[.slice (some ⟨g,0,none⟩) l.length cap,.int .i64 i,.slice (some ⟨vb,0,none⟩) 1 1] w fun e w'=>
  ∃G cur',e= .returned (.slice (some ⟨w.heap.size,0,none⟩) (l.length+1) G)∧l.length+1≤G∧G≤maxLen∧w'.heap[w.heap.size]?=some (.cells cur' 97 (0,0))∧cur'.size=G*4∧cur'.toList.take ((l.length+1)*4)=GR.flat aK (l.take i++q::l.drop i)∧w.grownBy w' none:=by
 obtain⟨i0,hi0,hz0,hz1,hz2⟩:=info_parts Kj;have hgw:=aA hblk;have hvw:=aA hv;have hdl:(GR.flat aK (l.drop i)).length=(l.length - i)*4:=by rw [fU,List.length_drop]
 have htl:(GR.flat aK (l.take i)).length=i*4:=by rw [fU,List.length_take,Nat.min_eq_left (by omega)]
 have hcell:∀(W:World),W.heap[g]?=w.heap[g]?→∀j v,(GR.flat aK l)[j]?=some v→W.cell? ⟨g,j,none⟩=some v:=fun W hW j v hj=>by
  have h2:W.cell? ⟨g,j,none⟩=cur[j]?:=cell_of_row W g j cur 97 (0,0) (hW.trans hblk)
  rw [←htake,List.getElem?_take] at hj
  split at hj
  ·rw [h2,←Array.getElem?_toList];exact hj
  ·cases hj
 have hold:(Builtin.firstCells i0.size i (.slice (some ⟨g,0,none⟩) i cap)).run Tryz.prog w.drew= .ok (GR.flat aK (l.take i)).toArray w.drew:=by
  rw [hz1]
  exact run_firstCells_some w.drew 4 i ⟨g,0,none⟩ i cap _ htl (fun j v hj=>by
   rw [Addr.add_lit,Nat.zero_add]
   refine hcell w.drew rfl j v ?_
   rw [←(nT l i (by omega)).1,List.getElem?_take] at hj
   split at hj
   ·exact hj
   ·cases hj)
 have hkk:(l.length:Int)+1 - (i:Int)=((l.length+1 - i:Nat):Int):=by omega
 have hik:i+(l.length+1 - i)=l.length+1:=by omega
 obtain⟨G,hG⟩:∃G,G=grownCap w (l.length+1) cap 97:=⟨_,rfl⟩;obtain⟨R,hR⟩:∃R:Array Value,R=(GR.flat aK (l.take i)).toArray++Builtin.zeroCells (Value.cells (.agg #[.int .i64 0,.string ByteArray.empty,.int .i64 0,.int .i64 0])) (l.length+1 - i)++Builtin.zeroCells (Value.cells (.agg #[.int .i64 0,.string ByteArray.empty,.int .i64 0,.int .i64 0])) (G - (l.length+1)):=⟨_,rfl⟩
 have hrz:∀ty,(Builtin.append_ #[28,3] ty #[.slice (some ⟨g,0,none⟩) i cap,.int .i64 ((l.length:Int)+1 - (i:Int))]).run Tryz.prog w= .ok (.slice (some ⟨w.heap.size,0,none⟩) (l.length+1) G) (w.drew.alloc (.cells R 97)):=fun ty=>by
  have h:=Lib.run_append_grow_zeros w 28 3 ty 97 i0 _ .i64 .i64 Tryz.underlying28 Tryz.underlying3 hi0 hz0 (some ⟨g,0,none⟩) i cap _ hold (l.length+1 - i) (by omega) (by omega) (by omega) (by omega) (by rw [hz2];omega) (by rw [hz2,hik];exact growslice_fits hroom (by omega))
  rw [hik,←hG,←hR] at h
  rw [hkk]
  exact h
 have hGn:l.length+1≤G:=by rw [hG];exact grownCap_ge w _ _ _
 have hGm:G≤maxLen:=by rw [hG];exact grownCap_le_maxLen w (l.length+1) cap 97 (by unfold maxLen;omega)
 have hRs:R.size=G*4:=by
  rw [hR];simp only[Array.size_append,List.size_toArray,size_zeroCells,htl];show i*4+(l.length+1 - i)*4+(G - (l.length+1))*4=_
  omega
 have hRl:R.toList.length=G*4:=by rw [show R.toList.length=R.size from Array.length_toList,hRs]
 have hRt:R.toList.take (i*4)=GR.flat aK (l.take i):=by
  rw [hR];simp only[Array.toList_append,List.append_assoc];rw [←htl,List.take_left]
 clear hR hG hold hkk hik
 have hA:∀W:World,W.heap=(w.drew.alloc (.cells R 97)).heap→∀ty dl dc,dl=l.length+1 - i→(Builtin.copy_ #[28,28] ty #[.slice (some ⟨w.heap.size,i*4,none⟩) dl dc,.slice (some ⟨vb,0,none⟩) 1 1]).run Tryz.prog W= .ok (goInt 1) (W.setRow w.heap.size (vU R.toList i q).toArray):=fun W hW ty dl dc e1=>by
  subst e1
  have hb:W.heap[w.heap.size]?=some (.cells R 97 (0,0)):=by rw [hW];exact heap_alloc_new w.drew _
  have hvb:W.heap[vb]?=w.heap[vb]?:=by rw [hW];exact Below.heap_alloc w.drew _ vb hvw
  have h:=kS (P:=Tryz.prog) W 28 28 ty 97 4 w.heap.size (i*4) (l.length+1 - i) dc ⟨vb,0,none⟩ 1 1 R 97 (aK q) Tryz.underlying28 EO hb (by show 4=_;simp only[Nat.min_def];split<;>omega)
   (fun j v hj=>by
    rw [World.cell?_of_block (w:=w) (a:=(⟨vb,0,none⟩:Addr).add j) (by rw [Addr.add_lit];exact hvb)]
    exact World.news_of_block hv j v hj)
   (by show i*4+4≤_;omega) (lX q)
  rw [show Nat.min 1 (l.length+1 - i)=1 by simp only[Nat.min_def];split<;>omega] at h
  exact h
 have hBb:∀W:World,W.heap=((w.drew.alloc (.cells R 97)).setRow w.heap.size (vU R.toList i q).toArray).heap→W.heap[w.heap.size]?=some (.cells (vU R.toList i q).toArray 97 (0,0))∧W.heap[g]?=w.heap[g]?:=fun W hW=>by
  rw [hW]
  exact⟨setRow_heap _ w.heap.size R _ 97 _ (heap_alloc_new w.drew _),(setRow_other _ w.heap.size g _ (by omega)).trans (Below.heap_alloc w.drew _ g hgw)⟩
 have hB:∀W:World,W.heap=((w.drew.alloc (.cells R 97)).setRow w.heap.size (vU R.toList i q).toArray).heap→∀ty dl sl dc sc,dl=l.length - i→sl=l.length - i→(Builtin.copy_ #[28,28] ty #[.slice (some ⟨w.heap.size,(i+1)*4,none⟩) dl dc,.slice (some ⟨g,i*4,none⟩) sl sc]).run Tryz.prog W= .ok (goInt ((l.length - i:Nat):Int)) (W.setRow w.heap.size (BG R.toList l i q).toArray):=fun W hW ty dl sl dc sc e1 e2=>by
  subst e1 e2
  obtain⟨hb1,hb2⟩:=hBb W hW
  have h:=kS (P:=Tryz.prog) W 28 28 ty 97 4 w.heap.size ((i+1)*4) (l.length - i) dc ⟨g,i*4,none⟩ (l.length - i) sc (vU R.toList i q).toArray 97 (GR.flat aK (l.drop i)) Tryz.underlying28 EO hb1 (by rw [hdl];simp only[Nat.min_def];split<;>omega)
   (fun j v hj=>by
    rw [Addr.add_lit]
    exact hcell W hb2 _ v (by rw [←List.getElem?_drop,(nT l i (by omega)).2];exact hj))
   (by rw [hdl,List.size_toArray,IB _ _ _ (by omega)];omega) (fun v hv=>gI _ v hv)
  rw [hdl,show Nat.min (l.length - i) (l.length - i)=l.length - i by simp only[Nat.min_def];split<;>omega] at h
  exact h
 have yh:=hide (show∀W:World,W.heap=((w.drew.alloc (.cells R 97)).setRow w.heap.size (vU R.toList i q).toArray).heap→W.os=w.os→W.tape=w.tape→W.output=w.output→
  (W.setRow w.heap.size (BG R.toList l i q).toArray).heap[w.heap.size]?=some (.cells (BG R.toList l i q).toArray 97 (0,0))∧w.grownBy (W.setRow w.heap.size (BG R.toList l i q).toArray) none from fun W hW e1 e2 e3=>by
  obtain⟨hb1,hb2⟩:=hBb W hW
  refine⟨setRow_heap _ w.heap.size _ _ 97 _ hb1,⟨e1,e2,e3,?_,fun k hk _=>?_⟩⟩
  ·have:=congrArg Array.size hW;simp at this ⊢;omega
  ·refine(setRow_other _ w.heap.size k _ (by omega)).trans ?_;rw [hW]
   exact(setRow_other _ w.heap.size k _ (by omega)).trans (Below.heap_alloc w.drew _ k hk))
 have Qe:=hide (show(BG R.toList l i q).toArray.size=G*4 by rw [List.size_toArray,Tj _ _ _ _ hi (by omega),hRl]);have Ls:=hide (show(BG R.toList l i q).toArray.toList.take ((l.length+1)*4)=_ from OC R.toList l i q hi (by omega) hRt);open ajr in exact XZ
def mG (l:List Rq) (i:Nat) (q:Rq):List Rq:=l.take i++q::l.drop i
theorem Hu (l:List Rq) (i:Nat) (q:Rq) (hi:i≤l.length):(mG l i q).length=l.length+1:=by
 unfold mG;rw [List.length_append,List.length_cons,List.length_take,List.length_drop];omega
theorem abE (B:Nat) (a:Option Addr) (cap i:Nat) (l:List Rq) (q:Rq) (vb:Nat) (w:World) (hl:l.length≤1000) (hi:i≤l.length) (hB:B≤w.heap.size) (ho:w.ownsRow B 97 4 (.slice a l.length cap) l.length (GR.flat aK l)) (hv:w.heap[vb]?=some (.cells #[.int .i64 q.no,.string q.k,.int .i64 q.n,.int .i64 q.s] 97 (0,0))) (hne:∀x,(Value.slice a l.length cap).ownBlock=some x→vb≠x):
 Calls Tryz.prog 189 #[.slice a l.length cap,.int .i64 i,.slice (some ⟨vb,0,none⟩) 1 1] w (Dy w B (.slice a l.length cap) (mG l i q)):=by
 have hlen:=Hu l i q hi;by_cases he:i=l.length
 ·subst he;have e:mG l l.length q=l++[q]:=by unfold mG;rw [List.take_length,List.drop_length]
  rw [e];exact Kk B a cap l q vb w hl hB ho hv
 have hi2:i < l.length:=by omega
 have hfl:(GR.flat aK (mG l i q)).length=(l.length+1)*4:=by rw [fU,hlen]
 open aj3 in exact Qy
set_option maxHeartbeats 4000000
abbrev zQ:List Value:=[.int .i64 0,.string ⟨#[]⟩,.int .i64 0,.int .i64 0]
theorem BH (w:World) (ty:TypeId) (g o c:Nat) (cur:Array Value) (hg:w.heap[g]?=some (.cells cur 97 (0,0))) (hfit:o+4≤cur.size):
 (Builtin.clear_ #[28] ty #[.slice (some ⟨g,o,none⟩) 1 c]).run Tryz.prog w= .ok (.tuple #[]) (w.setRow g (cur.toList.take o++zQ++cur.toList.drop (o+4)).toArray):=by
 have hst:=run_storeCells_at Tryz.prog g o 97 zQ 0 cur w hg (by simpa using hfit) (by intro u hu;simp only[zQ,List.mem_cons,List.not_mem_nil,or_false] at hu;rcases hu with rfl|rfl|rfl|rfl<;>rfl);have hzc:(Builtin.zeroCells (Value.cells (.agg #[.int .i64 0,.string ⟨#[]⟩,.int .i64 0,.int .i64 0])) 1).toList=zQ:=by kernel_rfl
 have h1:(Builtin.clear_ #[28] ty #[.slice (some ⟨g,o,none⟩) 1 c]).run Tryz.prog w=((storeCells ⟨g,o,none⟩ zQ).run Tryz.prog w).andThen fun _ w'=> .ok (.tuple #[]) w':=by
  simp[Builtin.clear_,run_underlying Tryz.underlying28];rw [hzc]
 rw [h1,hst];rfl
def vV (cur:List Value) (l:List Rq):List Value:=cur.take (0*4)++GR.flat aK (l.drop 1)++cur.drop (0*4+(GR.flat aK (l.drop 1)).length)
def EL (cur:List Value) (l:List Rq):List Value:=(vV cur l).take ((l.length - 1)*4)++zQ++(vV cur l).drop ((l.length - 1)*4+4)
theorem Ag (cur:List Value) (l:List Rq) (h2:2≤l.length) (hc:l.length*4≤cur.length):(vV cur l).length=cur.length:=by
 unfold vV;exact Zl
theorem Tk (cur:List Value) (l:List Rq) (h2:2≤l.length) (hc:l.length*4≤cur.length):(EL cur l).length=cur.length:=by
 have h1:=Ag cur l h2 hc;unfold EL;exact Zr
theorem OD (cur:List Value) (l:List Rq) (h2:2≤l.length) (hc:l.length*4≤cur.length):(EL cur l).take ((l.length - 1)*4)=GR.flat aK (l.drop 1):=by
 have h1:=Ag cur l h2 hc;have hd:(GR.flat aK (l.drop 1)).length=(l.length - 1)*4:=by rw [fU,List.length_drop]
 unfold EL;rw [List.append_assoc,List.take_append_of_le_length (by rw [List.length_take,h1];omega),List.take_take,Nat.min_self];unfold vV;rw [Nat.zero_mul,List.take_zero,List.nil_append,←hd,List.take_left]
theorem Nq (g cap:Nat) (l:List Rq) (w:World) (cur:Array Value) (h2:2≤l.length) (hl:l.length≤1000) (hnc:l.length≤cap) (hcm:cap≤maxLen) (hblk:w.heap[g]?=some (.cells cur 97 (0,0))) (hcs:cur.size=cap*4) (htake:cur.toList.take (l.length*4)=GR.flat aK l):
 Calls Tryz.prog 190 #[.slice (some ⟨g,0,none⟩) l.length cap,.int .i64 0,.int .i64 1] w fun e w'=>
  e= .returned (.slice (some ⟨g,0,none⟩) (l.length - 1) cap)∧w'.heap[g]?=some (.cells (EL cur.toList l).toArray 97 (0,0))∧w.grownBy w' (some g):=by
 obtain⟨i0,hi0,hz0,hz1,hz2⟩:=info_parts Kj;have Rt:cur.toList.length=cap*4:=by rw [show cur.toList.length=cur.size from Array.length_toList,hcs]
 have hdl:(GR.flat aK (l.drop 1)).length=(l.length - 1)*4:=by rw [fU,List.length_drop]
 have hap:∀W:World,W.heap[g]?=some (.cells cur 97 (0,0))→∀ty dc,(Builtin.append_ #[28,28] ty #[.slice (some ⟨g,0,none⟩) 0 cap,.slice (some ⟨g,4,none⟩) (l.length - 1) dc]).run Tryz.prog W= .ok (.slice (some ⟨g,0,none⟩) (l.length - 1) cap) (W.setRow g (vV cur.toList l).toArray):=fun W hW ty dc=>by
  have h:=run_append_room (P:=Tryz.prog) W 28 ty 97 i0 Tryz.underlying28 hi0 g 0 cap cur hW ⟨g,4,none⟩ (l.length - 1) dc (GR.flat aK (l.drop 1)) (by rw [hz1,hdl])
   (fun j v hj=>by
    rw [Addr.add_lit]
    have h1:(GR.flat aK l)[4+j]?=some v:=by
     have:=(nT l 1 (by omega)).2;rw [←List.getElem?_drop];rw [show(4:Nat)=1*4 from rfl,this];exact hj
    rw [←htake,List.getElem?_take] at h1
    split at h1
    ·have h2:W.cell? ⟨g,4+j,none⟩=cur[4+j]?:=cell_of_row W g (4+j) cur 97 (0,0) hW;rw [h2,←Array.getElem?_toList];exact h1
    ·cases h1)
   (fun v hv=>gI _ v hv) (by omega) (by rw [hz1,hdl,hcs];omega)
  rw [hz1,Nat.zero_add] at h
  exact h
 have hcl:∀W:World,W.heap[g]?=some (.cells cur 97 (0,0))→∀ty c,(Builtin.clear_ #[28] ty #[.slice (some ⟨g,(l.length - 1)*4,none⟩) 1 c]).run Tryz.prog (W.setRow g (vV cur.toList l).toArray)= .ok (.tuple #[]) ((W.setRow g (vV cur.toList l).toArray).setRow g (EL cur.toList l).toArray):=fun W hW ty c=>by
  have hb:(W.setRow g (vV cur.toList l).toArray).heap[g]?=some (.cells (vV cur.toList l).toArray 97 (0,0)):=setRow_heap W g cur _ 97 _ hW
  exact BH _ ty g ((l.length - 1)*4) c (vV cur.toList l).toArray hb (by rw [List.size_toArray,Ag _ _ h2 (by omega),Rt];omega)
 have yh:=hide (show∀W:World,Ge w W→((W.setRow g (vV cur.toList l).toArray).setRow g (EL cur.toList l).toArray).heap[g]?=some (.cells (EL cur.toList l).toArray 97 (0,0))∧w.grownBy ((W.setRow g (vV cur.toList l).toArray).setRow g (EL cur.toList l).toArray) (some g) from fun W hW=>
  ⟨setRow_heap _ g (vV cur.toList l).toArray _ 97 _ (setRow_heap W g cur _ 97 _ (aj hblk hW)),⟨hW.os,hW.tape,hW.output,by have:=hW.size;simpa using this,fun k hl hk=>((setRow_other _ g k _ (fun e=>hk (by rw [e]))).trans (setRow_other W g k _ (fun e=>hk (by rw [e])))).trans (hW.block k hl)⟩⟩)
 have aan:=hide hblk;have abj:l.length - (l.length - 1)=1:=by omega
 have mixed:Tryz.prog.follows .mixedOrders=true:=by kernel_rfl
 have hc63:cap≤9223372036854775807:=by unfold maxLen at hcm;omega
 have hb1:(1:Int)≤(l.length:Int):=by omega
 have hb2:¬(cap=1):=by omega
 have hb3:¬(l.length=0):=by omega
 have hnn:(l.length:Int) - 1=((l.length - 1:Nat):Int):=by omega
 clear hcs hblk htake hcm Rt hdl hi0 hz0 hz1 hz2;go_enter Tryz.func190,Tryz.ntmps190
 go_wp2_with fail;refine bn 6 (by kernel_rfl) ?_;show dS _ _ _ _ _ 8 (Array.replicate 8 false) _ _
 refine tk [0,1,2,3,4,5] ?_;iterate 6 (refine nQ (fun K hK=>?_);go_simp;refine hK _ ?_;clear hK K)
 refine jI ?_;refine aV (by kernel_rfl) (fun x hx=>?_);have aqj:=hap x (aj aan hx);have aqk:=hcl x (aj aan hx);have HF2:=hide (yh x hx);clear hap hcl hx yh aan;refine aG 6 rfl (by kernel_rfl) (by rfl) ?_;refine Lib.wp_append_run x (.tmp 22) (.tmp 25) 28 28 rfl (.slice (some ⟨g,0,none⟩) 0 cap) (.slice (some ⟨g,4,none⟩) (l.length - 1) (cap - 1)) (by simp[Act.eval]) (by simp[Act.eval]) _ _ (aqj _ _) ?_;refine aG 7 rfl (by kernel_rfl) (by rfl) ?_;go_simp;refine wpAny_done (by kernel_rfl) ?_;go_simp;go_wp2_with (simp only[abj,aqk])
 go_ret;exact⟨rfl,HF2.1,HF2.2⟩
theorem abf (B:Nat) (a:Option Addr) (cap:Nat) (l:List Rq) (w:World) (h2:2≤l.length) (hl:l.length≤1000) (ho:w.ownsRow B 97 4 (.slice a l.length cap) l.length (GR.flat aK l)):
 Calls Tryz.prog 190 #[.slice a l.length cap,.int .i64 0,.int .i64 1] w (Dy w B (.slice a l.length cap) (l.drop 1)):=by
 have hlen:(l.drop 1).length=l.length - 1:=by rw [List.length_drop]
 open aj4 in exact Qy
end Go.Proofs.YtacgbldlonoaaaaGreatDoor
