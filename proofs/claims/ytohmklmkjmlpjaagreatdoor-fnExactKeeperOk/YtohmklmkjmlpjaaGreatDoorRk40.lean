/- Parts. -/
import Derived.Test.YtohmklmkjmlpjaaGreatDoorRk39
namespace Go.Proofs.YtohmklmkjmlpjaaGreatDoor
open Go.Proofs.Tryz
set_option maxHeartbeats 8000000
set_option maxRecDepth 100000
open Go.RowKit
open Mth
variable (w0 w:World) (wb:Nat) (n:Nd) (A:bV) (G:aY) (c:Nat->Nat) (v:Value) (L:List Mg)
abbrev rqv (q:Rq):Value:= .agg (dZ q.no q.k q.n q.s)
theorem ale (q:Rq) (no:Int) (w:World) (h0:0<=q.no) (h1:q.no<=1000000000) (h2:0<=no) (h3:no<=1000000000):
 Calls prog 237 #[rqv q,.int .i64 no] w (eO w (.int .i64 (q.no - no))):=by
 obtain⟨qno,qk,qn,qs⟩:=q;dsimp only at h0 h1;go_in
 go_wp2_with fail;go_ret;exact⟨rfl,ay w _⟩
theorem aBU (a:Option Addr) (cap:Nat) (l:List Rq) (no:Int) (w:World) (hl:l.length<=1000) (ha:gF w a l) (hp:l.Pairwise (λs t=>s.no < t.no)) (hb:∀q∈l,0<=q.no/\q.no<=1000000000) (h0:0<=no) (h1:no<=1000000000):
 Calls prog 236 #[.slice a l.length cap,.int .i64 no,.func (.func 237) #[] #[]] w (eO w (.tuple #[.int .i64 (dS l no:Nat),.bool (nC l no)])):=by
 have HC:=Hq (λq w1 (hq:q∈l)=>ale q no w1 (hb q hq).1 (hb q hq).2 h0 h1);have ZI:=Hq (yE l no);have HHI:=Hq (yD (no:=no) hp);have HLE:=Hq (wH l no);have HF:=Hq (nT l no);have HA:=Hq ha;clear ha hp hb;generalize nC l no=RF at *;generalize dS l no=R at *;go_in
 go_wp2_with fail;go_loopw [9,10] (λi j wr=>∃p q:Nat,p<=R/\R<=q/\q<=l.length/\i= .int .i64 p/\j= .int .i64 q/\aI w wr) (λi j _=>(intOf j).toNat - (intOf i).toNat)
 case atStart=>exact⟨0,l.length,Nat.zero_le _,HLE,Nat.le_refl _,rfl,rfl,Below.refl _ _⟩
 case round=>
  obtain⟨p,q,h2,h3,h4,rfl,rfl,hbw⟩:=hrel;have HB:=Hq hbw;clear hbw;by_cases hlt:p < q
  .have O9:(p:Int) < (q:Int):=Aaa
   go_upto_region 5 with fail;obtain⟨m,hm⟩:∃m:Nat,((p:Int)+q) / 2=m:=⟨(p+q) / 2,Aaa⟩;have hmp:p<=m:=Aaa
   have hmq:m < q:=Aaa
   rw [hm];clear hm O9;have hml:m < l.length:=Aaa
   obtain⟨g,off,e0,hg,q0,q1,q2,q3⟩:=gF.four (GR.At.below HA HB) m hml;have HCM:=Hq (λw1=>HC l[m] w1 (List.getElem_mem hml));have HLM:=Hq (ZI m hml);have HHM:=Hq (HHI m hml);subst e0;generalize l[m]=lm at *;obtain⟨ln,lk,lx,ls⟩:=lm;dsimp only at q0 q1 q2 q3 HCM HLM HHM;open az7 in exact aif
  .have hpq:p=R:=Aaa
   subst hpq;have hnlt:¬((p:Int) < (q:Int)):=Aaa
   by_cases hpl:p < l.length
   .have aGa:(p:Int) < (l.length:Int):=Aaa
    obtain⟨g,off,e0,hg,q0,q1,q2,q3⟩:=gF.four (GR.At.below HA HB) p hpl;have HCM:=Hq (λw1=>HC l[p] w1 (List.getElem_mem hpl))
    have HFP:Hid (RF=decide (l[p].no=no)):=by
     show RF=_
     rw [Bool.eq_iff_iff,ah HF,decide_eq_true_iff];exact⟨fun⟨_,h⟩=>h,λh=>⟨hpl,h⟩⟩
    subst e0;clear HF HC ZI HHI;generalize l[p]=lm at *;obtain⟨ln,lk,lx,ls⟩:=lm;dsimp only at q0 q1 q2 q3 HCM HFP;open az6 in exact aif
   .have aGa:¬((p:Int) < (l.length:Int)):=Aaa
    have HFP:Hid (RF=false):=by
     show RF=_
     rw [Bool.eq_false_iff];intro h;exact hpl (HF.1 h).1
    clear HF HC ZI HHI;go_wp2_with fail;go_ret2
    exact⟨by rw [ah HFP];rfl,HB⟩
theorem M9 (no:Int) (hok:gX n=true) (h0:0<=no) (h1:no<=1000000000) (h:WK w0 w wb n A G c v L):
 Calls prog 211 #[.pointer (some ⟨wb,0,none⟩),.int .i64 no] w (eO w (.tuple #[.int .i64 (dS n.reqs no:Nat),.bool (nC n.reqs no)])):=by
 obtain⟨r1,r2,r3,r4,r5⟩:=jc hok;have HBS:=Hq (λw1 (ha:gF w1 A.r n.reqs)=>aBU A.r A.cr n.reqs no w1 Aaa ha r1 (λq hq=>by have:=jV (r3 q hq);omega) h0 h1);have HA:=Hq h.no.at.r;obtain⟨c0,c1,c2,c3,c4,c5,c6,c7,c8,c9⟩:=jH h.blk;clear h r1 r3 hok;generalize nC n.reqs no=RF at *;generalize dS n.reqs no=R at *;go_in
 go_wp2_with fail;refine(HBS w HA).mono ?_;rintro e w1 ⟨rfl,hb1⟩;have HB:=Hq hb1;clear hb1;go_wp2_with fail;go_ret2
 exact⟨rfl,HB⟩
theorem nI {P:Program} (w:World) (dT sT ty elem:TypeId) (sz:Nat) (g o dLen dCap:Nat) (a:Addr) (sLen sCap:Nat) (cur:Array Value) (t:TypeId) (cs:List Value)
 (hu:P.underlying dT=some (.slice elem)) (hs:(P.info? elem).map (·.size)=some sz)
 (hg:w.heap[g]?=some (.cells cur t (0,0))) (hn:cs.length=Nat.min sLen dLen*sz)
 (hsrc:∀j v,cs[j]?=some v->w.cell? (a.add j)=some v) (hfit:o+cs.length<=cur.size) (h1:∀v∈cs,v.oneCell'=true):
 (Builtin.copy_ #[dT,sT] ty #[.slice (some ⟨g,o,none⟩) dLen dCap,.slice (some a) sLen sCap]).run P w=
  .ok (goInt (Nat.min sLen dLen)) (w.setRow g (cur.toList.take o++cs++cur.toList.drop (o+cs.length)).toArray):=by
 have hl:=run_loadCells_list (P:=P) w a cs hsrc;have hst:=run_storeCells_at P g o t cs 0 cur w hg (by simpa using hfit) h1;cases hq:P.info? elem with
 |none=>simp[hq] at hs
 |some i=>
  have hi:i.size=sz:=by simpa [hq] using hs
  rw [hn] at hl;simp[Builtin.copy_,run_underlying hu,Builtin.lenOf,Builtin.firstCells,sizeOf,typeInfo,hq,hi,hl,hst]
theorem TB:(prog.info? 95).map (λi=>(i.zero,i.size,i.bytes))=some (some (.agg (dZ 0 ByteArray.empty 0 0)),4,40):=Aab
theorem Mk:(prog.info? 95).map (·.size)=some 4:=Aab
def J4 (w:World) (B:Nat) (v:Value) (l:List Rq) (e:Ending) (w':World):Prop:=
 ∃a cp,e= .returned (.slice a l.length cp)/\w'.ownsRow B 95 4 (.slice a l.length cp) l.length (GR.flat aJ l)/\w.grownBy w' v.ownBlock/\∀x,(Value.slice a l.length cp).ownBlock=some x->v.ownBlock=some x\/w.heap.size<=x
theorem TF (B:Nat) (a:Option Addr) (cap:Nat) (l:List Rq) (q:Rq) (vb:Nat) (w:World) (hl:l.length<=1000) (hB:B<=w.heap.size) (ho:w.ownsRow B 95 4 (.slice a l.length cap) l.length (GR.flat aJ l)) (hv:w.heap[vb]?=some (.cells (dZ q.no q.k q.n q.s) 95 (0,0))):
 Calls prog 238 #[.slice a l.length cap,.int .i64 l.length,.slice (some ⟨vb,0,none⟩) 1 1] w (J4 w B (.slice a l.length cap) (l++[q])):=by
 obtain⟨i0,hi,hz0,hz1,hz2⟩:=info_parts TB;obtain⟨v',w',hr,h2,h3,h4⟩:=gJ w B 38 38 95 i0 _ 4 40 underlying38 hi hz0 hz1 hz2 rfl Aae (.slice a l.length cap) l.length (GR.flat aJ l) ho ⟨vb,0,none⟩ 1 1 (aJ q) rfl (World.news_of_block hv) (oN q) Aai Aaa hB;obtain⟨a2,c2,he,_⟩:=GR.own_at (enc:=aJ) (sz:=4) (l:=l++[q]) aS (by rw [List.length_append,iW];exact h2);rw [List.length_append] at he;have he2:v'= .slice a2 (l.length+1) c2:=he;subst he2
 have hle:l.length<=cap\/(a=none/\l.length=0/\cap=0):=by
  rcases ho.2 with⟨hx,hy⟩|⟨g,cp,cur,hx,_,_,hc,_⟩
  .simp only[Value.slice.injEq] at hx;exact .inr ⟨hx.1,hy,hx.2.2⟩
  .simp only[Value.slice.injEq] at hx;exact .inl Aaa
 have hcap:l.length<=cap:=by rcases hle with h|h<;>omega
 have hcm:cap<=9223372036854775807:=by
  rcases ho.2 with⟨hx,hy⟩|⟨g,cp,cur,hx,_,_,_,hc,_⟩
  .simp only[Value.slice.injEq] at hx;omega
  .simp only[Value.slice.injEq] at hx;unfold maxLen at hc;omega
 have H:=Hq (show J4 w B (.slice a l.length cap) (l++[q]) (.returned (.slice a2 (l.length+1) c2)) w' from⟨a2,c2,by rw [List.length_append];rfl,by rw [List.length_append,iW];exact h2,h3,by rw [List.length_append];exact h4⟩);have hq:((l.length:Int) == (l.length:Int))=true:=Aac
 clear h2 h3 h4 ho hv hi hz0 hz1 hz2 hle he;cases a with
 |none=>
  go_in
  go_wp2_with (at_builtin;refine Lib.wpList_append_run _ rfl _ _ _ _ rfl _ _ rfl rfl _ _ hr ?_)
  go_ret;exact H
 |some ad=>
  go_in
  go_wp2_with (at_builtin;refine Lib.wpList_append_run _ rfl _ _ _ _ rfl _ _ rfl rfl _ _ hr ?_)
  all_goals
   try go_wp2_with (at_builtin;refine Lib.wpList_append_run _ rfl _ _ _ _ rfl _ _ rfl rfl _ _ hr ?_)
   go_ret
   exact H
theorem iq (l:List Rq):(GR.flat aJ l).length=l.length*4:=GR.flat_length aJ 4 aS l
theorem rJ (l:List Rq) (i:Nat) (hi:i<=l.length):(GR.flat aJ l).take (i*4)=GR.flat aJ (l.take i)/\(GR.flat aJ l).drop (i*4)=GR.flat aJ (l.drop i):=by
 have e:GR.flat aJ l=GR.flat aJ (l.take i)++GR.flat aJ (l.drop i):=by rw [<-GR.flat_append,List.take_append_drop]
 have hlen:(GR.flat aJ (l.take i)).length=i*4:=by rw [iq,List.length_take,Nat.min_eq_left hi]
 rw [e,<-hlen,List.take_left,List.drop_left];exact⟨rfl,rfl⟩
def su (cur:List Value) (l:List Rq) (i:Nat):List Value:=cur.take ((i+1)*4)++GR.flat aJ (l.drop i)++cur.drop ((i+1)*4+(l.length - i)*4)
def Mh (cur:List Value) (l:List Rq) (i:Nat) (q:Rq):List Value:=(su cur l i).take (i*4)++aJ q++(su cur l i).drop (i*4+4)
theorem Qx (cur:List Value) (l:List Rq) (i:Nat) (hi:i < l.length) (hc:(l.length+1)*4<=cur.length):(su cur l i).length=cur.length:=by
 unfold su;exact ajx
theorem ac9 (cur:List Value) (l:List Rq) (i:Nat) (q:Rq) (hi:i < l.length) (hc:(l.length+1)*4<=cur.length):(Mh cur l i q).length=cur.length:=by
 have h1:=Qx cur l i hi hc;unfold Mh;exact ajD
theorem Yr (cur:List Value) (l:List Rq) (i:Nat) (q:Rq) (hi:i < l.length) (hc:(l.length+1)*4<=cur.length) (ht:cur.take (l.length*4)=GR.flat aJ l):(Mh cur l i q).take ((l.length+1)*4)=GR.flat aJ (l.take i++q::l.drop i):=by
 have e1:(su cur l i).take (i*4)=GR.flat aJ (l.take i):=by
  unfold su;rw [List.append_assoc,List.take_append_of_le_length Abm,List.take_take,Nat.min_eq_left Aaa,<-(rJ l i Aaa).1,<-ht,List.take_take,Nat.min_eq_left Aaa]
 have hl1:(cur.take ((i+1)*4)).length=i*4+4:=Abm
 have e2:(su cur l i).drop (i*4+4)=GR.flat aJ (l.drop i)++cur.drop ((i+1)*4+(l.length - i)*4):=by
  unfold su;rw [List.append_assoc,<-hl1,List.drop_left]
 have hd:(GR.flat aJ (l.drop i)).length=(l.length - i)*4:=Aca
 have ht2:(GR.flat aJ (l.take i)).length=i*4:=by rw [iq,List.length_take,Nat.min_eq_left Aaa]
 unfold Mh;rw [e1,e2,GR.flat_append,GR.flat_cons,<-List.append_assoc];rw [show(l.length+1)*4=(GR.flat aJ (l.take i)++aJ q++GR.flat aJ (l.drop i)).length by rw [List.length_append,List.length_append,hd,ht2];show _=_+4+_;omega,List.take_left];rw [List.append_assoc]
theorem Ls (g cap i:Nat) (l:List Rq) (q:Rq) (vb:Nat) (w:World) (cur:Array Value) (hl:l.length<=1000) (hi:i < l.length) (hroom:l.length+1<=cap) (hcm:cap<=maxLen) (hvb:vb≠g) (hblk:w.heap[g]?=some (.cells cur 95 (0,0))) (hcs:cur.size=cap*4) (htake:cur.toList.take (l.length*4)=GR.flat aJ l) (hv:w.heap[vb]?=some (.cells (dZ q.no q.k q.n q.s) 95 (0,0))):
 Calls prog 238 #[.slice (some ⟨g,0,none⟩) l.length cap,.int .i64 i,.slice (some ⟨vb,0,none⟩) 1 1] w λe w'=>
  e= .returned (.slice (some ⟨g,0,none⟩) (l.length+1) cap)/\w'.heap[g]?=some (.cells (Mh cur.toList l i q).toArray 95 (0,0))/\w.grownBy w' (some g):=by
 have hcl:(l.length+1)*4<=cur.toList.length:=Adg
 have hdl:(GR.flat aJ (l.drop i)).length=(l.length - i)*4:=Aca
 have hcp1:∀ty dl sl dc sc,dl=l.length - i->sl=l.length+1 - i->(Builtin.copy_ #[38,38] ty #[.slice (some ⟨g,(i+1)*4,none⟩) dl dc,.slice (some ⟨g,i*4,none⟩) sl sc]).run prog w.drew= .ok (goInt ((l.length - i:Nat):Int)) (w.drew.setRow g (su cur.toList l i).toArray):=λty dl sl dc sc e1 e2=>by
  subst e1 e2
  have h:=nI (P:=prog) w.drew 38 38 ty 95 4 g ((i+1)*4) (l.length - i) dc ⟨g,i*4,none⟩ (l.length+1 - i) sc cur 95 (GR.flat aJ (l.drop i)) underlying38 Mk hblk (by rw [hdl];simp only[Nat.min_def];split<;>omega)
   (λj v hj=>by
    rw [Addr.add_lit]
    have h1:(GR.flat aJ l)[i*4+j]?=some v:=by rw [<-List.getElem?_drop,(rJ l i Aaa).2];exact hj
    rw [<-htake,List.getElem?_take] at h1
    split at h1
    .have h2:w.drew.cell? ⟨g,i*4+j,none⟩=cur[i*4+j]?:=cell_of_row w.drew g (i*4+j) cur 95 (0,0) hblk;rw [h2,<-Array.getElem?_toList];exact h1
    .cases h1)
   (by rw [hdl,hcs];omega) (λv hv=>iM _ v hv)
  rw [hdl,show Nat.min (l.length+1 - i) (l.length - i)=l.length - i by simp only[Nat.min_def];split<;>omega] at h
  exact h
 have hr1:=Qx cur.toList l i hi hcl;have abS:cur.toList.length=cap*4:=Adp
 have alv:(w.drew.setRow g (su cur.toList l i).toArray).heap[g]?=some (.cells (su cur.toList l i).toArray 95 (0,0)):=setRow_heap w.drew g cur _ 95 _ hblk
 have hvr:∀j v,(aJ q)[j]?=some v->(w.drew.setRow g (su cur.toList l i).toArray).cell? ⟨vb,0+j,none⟩=some v:=λj v hj=>by
  have h1:(w.drew.setRow g (su cur.toList l i).toArray).heap[vb]?=w.heap[vb]?:=setRow_other w.drew g vb _ hvb
  rw [World.cell?_of_block (w:=w) (a:=⟨vb,0+j,none⟩) h1,<-Addr.add_lit]
  exact World.news_of_block hv j v hj
 have hcp2:∀ty dl dc,dl=l.length+1 - i->(Builtin.copy_ #[38,38] ty #[.slice (some ⟨g,i*4,none⟩) dl dc,.slice (some ⟨vb,0,none⟩) 1 1]).run prog (w.drew.setRow g (su cur.toList l i).toArray)= .ok (goInt 1) ((w.drew.setRow g (su cur.toList l i).toArray).setRow g (Mh cur.toList l i q).toArray):=λty dl dc e1=>by
  subst e1
  have h:=nI (P:=prog) (w.drew.setRow g (su cur.toList l i).toArray) 38 38 ty 95 4 g (i*4) (l.length+1 - i) dc ⟨vb,0,none⟩ 1 1 (su cur.toList l i).toArray 95 (aJ q) underlying38 Mk alv (by show 4=_;simp only[Nat.min_def];split<;>omega)
   (λj v hj=>by rw [Addr.add_lit];exact hvr j v hj)
   (by show i*4+4<=_;rw [List.size_toArray,hr1,abS];omega) (oN q)
  rw [show Nat.min 1 (l.length+1 - i)=1 by simp only[Nat.min_def];split<;>omega] at h
  exact h
 have hfin:=Hq (show((w.drew.setRow g (su cur.toList l i).toArray).setRow g (Mh cur.toList l i q).toArray).heap[g]?=some (.cells (Mh cur.toList l i q).toArray 95 (0,0))/\w.grownBy ((w.drew.setRow g (su cur.toList l i).toArray).setRow g (Mh cur.toList l i q).toArray) (some g) from
  ⟨setRow_heap _ g (su cur.toList l i).toArray _ 95 _ alv,⟨rfl,rfl,rfl,Aac,λk _ hk=>(setRow_other _ g k _ (λe=>hk Aao)).trans (setRow_other w.drew g k _ (λe=>hk Aao))⟩⟩)
 have hov:∀lb cb,(callFunc 262 #[.slice (some ⟨vb,0,none⟩) 1 1,.slice (some ⟨g,(i+1)*4,none⟩) lb cb]).run prog w= .ok (.value (.bool false)) w:=λlb cb=>by
  rw [run_callFunc_extern func262 Aab Aab Aab (e:=Extern.SlicesOverlaps.overlaps #[38,38] #[4]) Aab,
   Lib.run_overlaps_apart w 38 4 95 underlying38 4 (λw=>Aab) ⟨vb,0,none⟩ ⟨g,(i+1)*4,none⟩ 1 1 lb cb hvb 95 95 4 cur.size (by unfold World.shape?;rw [hv];rfl) (by unfold World.shape?;rw [hblk]) Aaa (aj hv 0) (aj hv 4)]
  rfl
 open awM in exact ahl
def zY (R:List Value) (i:Nat) (q:Rq):List Value:=R.take (i*4)++aJ q++R.drop (i*4+4)
def Hl (R:List Value) (l:List Rq) (i:Nat) (q:Rq):List Value:=(zY R i q).take ((i+1)*4)++GR.flat aJ (l.drop i)++(zY R i q).drop ((i+1)*4+(l.length - i)*4)
theorem Qy (R:List Value) (i:Nat) (q:Rq) (h:i*4+4<=R.length):(zY R i q).length=R.length:=by
 unfold zY;rw [List.length_append,List.length_append,List.length_take,List.length_drop];show _+4+_=_
 omega
theorem ada (R:List Value) (l:List Rq) (i:Nat) (q:Rq) (hi:i < l.length) (h:(l.length+1)*4<=R.length):(Hl R l i q).length=R.length:=by
 have h1:=Qy R i q Aaa;unfold Hl;rw [List.length_append,List.length_append,iq,List.length_take,List.length_drop,List.length_drop,h1];omega
theorem Yt (R:List Value) (l:List Rq) (i:Nat) (q:Rq) (hi:i < l.length) (_h:(l.length+1)*4<=R.length) (ht:R.take (i*4)=GR.flat aJ (l.take i)):(Hl R l i q).take ((l.length+1)*4)=GR.flat aJ (l.take i++q::l.drop i):=by
 have ht2:(GR.flat aJ (l.take i)).length=i*4:=by rw [iq,List.length_take,Nat.min_eq_left Aaa]
 have hd:(GR.flat aJ (l.drop i)).length=(l.length - i)*4:=Aca
 have e1:(zY R i q).take ((i+1)*4)=GR.flat aJ (l.take i)++aJ q:=by
  unfold zY;rw [ht];have:(i+1)*4=(GR.flat aJ (l.take i)++aJ q).length:=by rw [List.length_append,ht2];show _=_+4;omega
  rw [this,List.take_left]
 unfold Hl;rw [e1,GR.flat_append,GR.flat_cons,<-List.append_assoc];rw [show(l.length+1)*4=(GR.flat aJ (l.take i)++aJ q++GR.flat aJ (l.drop i)).length by rw [List.length_append,List.length_append,hd,ht2];show _=_+4+_;omega,List.take_left]
theorem PV (g cap i:Nat) (l:List Rq) (q:Rq) (vb:Nat) (w:World) (cur:Array Value) (hl:l.length<=1000) (hi:i < l.length) (hnc:l.length<=cap) (hroom:cap < l.length+1) (hblk:w.heap[g]?=some (.cells cur 95 (0,0))) (htake:cur.toList.take (l.length*4)=GR.flat aJ l) (hv:w.heap[vb]?=some (.cells (dZ q.no q.k q.n q.s) 95 (0,0))):
 Calls prog 238 #[.slice (some ⟨g,0,none⟩) l.length cap,.int .i64 i,.slice (some ⟨vb,0,none⟩) 1 1] w λe w'=>
  ∃G cur',e= .returned (.slice (some ⟨w.heap.size,0,none⟩) (l.length+1) G)/\l.length+1<=G/\G<=maxLen/\w'.heap[w.heap.size]?=some (.cells cur' 95 (0,0))/\cur'.size=G*4/\cur'.toList.take ((l.length+1)*4)=GR.flat aJ (l.take i++q::l.drop i)/\w.grownBy w' none:=by
 obtain⟨i0,hi0,hz0,hz1,hz2⟩:=info_parts TB;have hgw:=aA hblk;have hvw:=aA hv;have hdl:(GR.flat aJ (l.drop i)).length=(l.length - i)*4:=Aca
 have htl:(GR.flat aJ (l.take i)).length=i*4:=by rw [iq,List.length_take,Nat.min_eq_left Aaa]
 have hcell:∀(W:World),W.heap[g]?=w.heap[g]?->∀j v,(GR.flat aJ l)[j]?=some v->W.cell? ⟨g,j,none⟩=some v:=λW hW j v hj=>by
  have h2:W.cell? ⟨g,j,none⟩=cur[j]?:=cell_of_row W g j cur 95 (0,0) (hW.trans hblk)
  rw [<-htake,List.getElem?_take] at hj
  split at hj
  .rw [h2,<-Array.getElem?_toList];exact hj
  .cases hj
 have hold:(Builtin.firstCells i0.size i (.slice (some ⟨g,0,none⟩) i cap)).run prog w.drew= .ok (GR.flat aJ (l.take i)).toArray w.drew:=by
  rw [hz1]
  exact run_firstCells_some w.drew 4 i ⟨g,0,none⟩ i cap _ htl (λj v hj=>by
   rw [Addr.add_lit,Nat.zero_add]
   refine hcell w.drew rfl j v ?_
   rw [<-(rJ l i Aaa).1,List.getElem?_take] at hj
   split at hj
   .exact hj
   .cases hj)
 have hkk:(l.length:Int)+1 - (i:Int)=((l.length+1 - i:Nat):Int):=Aaa
 have hik:i+(l.length+1 - i)=l.length+1:=Aaa
 obtain⟨G,hG⟩:∃G,G=grownCap w (l.length+1) cap 95:=⟨_,rfl⟩;obtain⟨R,hR⟩:∃R:Array Value,R=(GR.flat aJ (l.take i)).toArray++Builtin.zeroCells (Value.cells (.agg (dZ 0 ByteArray.empty 0 0))) (l.length+1 - i)++Builtin.zeroCells (Value.cells (.agg (dZ 0 ByteArray.empty 0 0))) (G - (l.length+1)):=⟨_,rfl⟩
 have hrz:∀ty,(Builtin.append_ #[38,3] ty #[.slice (some ⟨g,0,none⟩) i cap,.int .i64 ((l.length:Int)+1 - (i:Int))]).run prog w= .ok (.slice (some ⟨w.heap.size,0,none⟩) (l.length+1) G) (w.drew.alloc (.cells R 95)):=λty=>by
  have h:=Lib.run_append_grow_zeros w 38 3 ty 95 i0 _ .i64 .i64 underlying38 underlying3 hi0 hz0 (some ⟨g,0,none⟩) i cap _ hold (l.length+1 - i) Aaa Aaa Aaa Aaa Abc (by rw [hz2,hik];exact growslice_fits hroom (by omega))
  rw [hik,<-hG,<-hR] at h
  rw [hkk]
  exact h
 have hGn:l.length+1<=G:=by rw [hG];exact grownCap_ge w _ _ _
 have hGm:G<=maxLen:=by rw [hG];exact grownCap_le_maxLen w (l.length+1) cap 95 Aai
 have hRs:R.size=G*4:=by
  rw [hR];simp only[Array.size_append,List.size_toArray,size_zeroCells,htl];show i*4+(l.length+1 - i)*4+(G - (l.length+1))*4=_
  omega
 have hRl:R.toList.length=G*4:=by rw [show R.toList.length=R.size from Array.length_toList,hRs]
 have hRt:R.toList.take (i*4)=GR.flat aJ (l.take i):=by
  rw [hR];simp only[Array.toList_append,List.append_assoc];rw [<-htl,List.take_left]
 clear hR hG hold hkk hik
 have hA:∀W:World,W.heap=(w.drew.alloc (.cells R 95)).heap->∀ty dl dc,dl=l.length+1 - i->(Builtin.copy_ #[38,38] ty #[.slice (some ⟨w.heap.size,i*4,none⟩) dl dc,.slice (some ⟨vb,0,none⟩) 1 1]).run prog W= .ok (goInt 1) (W.setRow w.heap.size (zY R.toList i q).toArray):=λW hW ty dl dc e1=>by
  subst e1
  have hb:W.heap[w.heap.size]?=some (.cells R 95 (0,0)):=by rw [hW];exact heap_alloc_new w.drew _
  have hvb:W.heap[vb]?=w.heap[vb]?:=by rw [hW];exact Below.heap_alloc w.drew _ vb hvw
  have h:=nI (P:=prog) W 38 38 ty 95 4 w.heap.size (i*4) (l.length+1 - i) dc ⟨vb,0,none⟩ 1 1 R 95 (aJ q) underlying38 Mk hb (by show 4=_;simp only[Nat.min_def];split<;>omega)
   (λj v hj=>by
    rw [World.cell?_of_block (w:=w) (a:=(⟨vb,0,none⟩:Addr).add j) (by rw [Addr.add_lit];exact hvb)]
    exact World.news_of_block hv j v hj)
   (by show i*4+4<=_;omega) (oN q)
  rw [show Nat.min 1 (l.length+1 - i)=1 by simp only[Nat.min_def];split<;>omega] at h
  exact h
 have hBb:∀W:World,W.heap=((w.drew.alloc (.cells R 95)).setRow w.heap.size (zY R.toList i q).toArray).heap->W.heap[w.heap.size]?=some (.cells (zY R.toList i q).toArray 95 (0,0))/\W.heap[g]?=w.heap[g]?:=λW hW=>by
  rw [hW]
  exact⟨setRow_heap _ w.heap.size R _ 95 _ (heap_alloc_new w.drew _),(setRow_other _ w.heap.size g _ Aaa).trans (Below.heap_alloc w.drew _ g hgw)⟩
 have hB:∀W:World,W.heap=((w.drew.alloc (.cells R 95)).setRow w.heap.size (zY R.toList i q).toArray).heap->∀ty dl sl dc sc,dl=l.length - i->sl=l.length - i->(Builtin.copy_ #[38,38] ty #[.slice (some ⟨w.heap.size,(i+1)*4,none⟩) dl dc,.slice (some ⟨g,i*4,none⟩) sl sc]).run prog W= .ok (goInt ((l.length - i:Nat):Int)) (W.setRow w.heap.size (Hl R.toList l i q).toArray):=λW hW ty dl sl dc sc e1 e2=>by
  subst e1 e2
  obtain⟨hb1,hb2⟩:=hBb W hW
  have h:=nI (P:=prog) W 38 38 ty 95 4 w.heap.size ((i+1)*4) (l.length - i) dc ⟨g,i*4,none⟩ (l.length - i) sc (zY R.toList i q).toArray 95 (GR.flat aJ (l.drop i)) underlying38 Mk hb1 (by rw [hdl];simp only[Nat.min_def];split<;>omega)
   (λj v hj=>by
    rw [Addr.add_lit]
    exact hcell W hb2 _ v (by rw [<-List.getElem?_drop,(rJ l i Aaa).2];exact hj))
   (by rw [hdl,List.size_toArray,Qy _ _ _ Aaa];omega) (λv hv=>iM _ v hv)
  rw [hdl,show Nat.min (l.length - i) (l.length - i)=l.length - i by simp only[Nat.min_def];split<;>omega] at h
  exact h
 have CV:=Hq (show∀W:World,W.heap=((w.drew.alloc (.cells R 95)).setRow w.heap.size (zY R.toList i q).toArray).heap->W.os=w.os->W.tape=w.tape->W.output=w.output->
  (W.setRow w.heap.size (Hl R.toList l i q).toArray).heap[w.heap.size]?=some (.cells (Hl R.toList l i q).toArray 95 (0,0))/\w.grownBy (W.setRow w.heap.size (Hl R.toList l i q).toArray) none from λW hW e1 e2 e3=>by
  obtain⟨hb1,hb2⟩:=hBb W hW
  refine⟨setRow_heap _ w.heap.size _ _ 95 _ hb1,⟨e1,e2,e3,?_,λk hk _=>?_⟩⟩
  .have:=congrArg Array.size hW;simp at this ⊢;omega
  .refine(setRow_other _ w.heap.size k _ Aaa).trans ?_;rw [hW]
   exact(setRow_other _ w.heap.size k _ Aaa).trans (Below.heap_alloc w.drew _ k hk))
 have uX:=Hq (show(Hl R.toList l i q).toArray.size=G*4 by rw [List.size_toArray,ada _ _ _ _ hi Aaa,hRl]);have Ob:=Hq (show(Hl R.toList l i q).toArray.toList.take ((l.length+1)*4)=_ from Yt R.toList l i q hi Aaa hRt);open awN in exact ahl
def pU (l:List Rq) (i:Nat) (q:Rq):List Rq:=l.take i++q::l.drop i
theorem PI (l:List Rq) (i:Nat) (q:Rq) (hi:i<=l.length):(pU l i q).length=l.length+1:=by
 unfold pU;rw [List.length_append,List.length_cons,List.length_take,List.length_drop];omega
theorem alS (B:Nat) (a:Option Addr) (cap i:Nat) (l:List Rq) (q:Rq) (vb:Nat) (w:World) (hl:l.length<=1000) (hi:i<=l.length) (hB:B<=w.heap.size) (ho:w.ownsRow B 95 4 (.slice a l.length cap) l.length (GR.flat aJ l)) (hv:w.heap[vb]?=some (.cells (dZ q.no q.k q.n q.s) 95 (0,0))) (hne:∀x,(Value.slice a l.length cap).ownBlock=some x->vb≠x):
 Calls prog 238 #[.slice a l.length cap,.int .i64 i,.slice (some ⟨vb,0,none⟩) 1 1] w (J4 w B (.slice a l.length cap) (pU l i q)):=by
 have hlen:=PI l i q hi;by_cases he:i=l.length
 .subst he;have e:pU l l.length q=l++[q]:=by unfold pU;rw [List.take_length,List.drop_length]
  rw [e];exact TF B a cap l q vb w hl hB ho hv
 have hi2:i < l.length:=Aaa
 have hfl:(GR.flat aJ (pU l i q)).length=(l.length+1)*4:=by rw [iq,hlen]
 open axJ in exact aaF
abbrev zQ:List Value:=[.int .i64 0,.string ⟨#[]⟩,.int .i64 0,.int .i64 0]
theorem Ho (w:World) (ty:TypeId) (g o c:Nat) (cur:Array Value) (hg:w.heap[g]?=some (.cells cur 95 (0,0))) (hfit:o+4<=cur.size):
 (Builtin.clear_ #[38] ty #[.slice (some ⟨g,o,none⟩) 1 c]).run prog w= .ok (.tuple #[]) (w.setRow g (cur.toList.take o++zQ++cur.toList.drop (o+4)).toArray):=by
 have hst:=run_storeCells_at prog g o 95 zQ 0 cur w hg (by simpa using hfit) (by intro u hu;simp only[zQ,List.mem_cons,List.not_mem_nil,or_false] at hu;rcases hu with rfl|rfl|rfl|rfl<;>rfl);have hzc:(Builtin.zeroCells (Value.cells (.agg (dZ 0 ⟨#[]⟩ 0 0))) 1).toList=zQ:=Aab
 have h1:(Builtin.clear_ #[38] ty #[.slice (some ⟨g,o,none⟩) 1 c]).run prog w=((storeCells ⟨g,o,none⟩ zQ).run prog w).andThen λ_ w'=> .ok (.tuple #[]) w':=by
  simp[Builtin.clear_,run_underlying underlying38];rw [hzc]
 rw [h1,hst];rfl
def zZ (cur:List Value) (l:List Rq):List Value:=cur.take (0*4)++GR.flat aJ (l.drop 1)++cur.drop (0*4+(GR.flat aJ (l.drop 1)).length)
def Mi (cur:List Value) (l:List Rq):List Value:=(zZ cur l).take ((l.length - 1)*4)++zQ++(zZ cur l).drop ((l.length - 1)*4+4)
theorem FC (cur:List Value) (l:List Rq) (h2:2<=l.length) (hc:l.length*4<=cur.length):(zZ cur l).length=cur.length:=by
 unfold zZ;exact ajx
theorem adb (cur:List Value) (l:List Rq) (h2:2<=l.length) (hc:l.length*4<=cur.length):(Mi cur l).length=cur.length:=by
 have h1:=FC cur l h2 hc;unfold Mi;exact ajD
theorem Yu (cur:List Value) (l:List Rq) (h2:2<=l.length) (hc:l.length*4<=cur.length):(Mi cur l).take ((l.length - 1)*4)=GR.flat aJ (l.drop 1):=by
 have h1:=FC cur l h2 hc;have hd:(GR.flat aJ (l.drop 1)).length=(l.length - 1)*4:=Aca
 unfold Mi;rw [List.append_assoc,List.take_append_of_le_length (by rw [List.length_take,h1];omega),List.take_take,Nat.min_self];unfold zZ;rw [Nat.zero_mul,List.take_zero,List.nil_append,<-hd,List.take_left]
theorem Xj (g cap:Nat) (l:List Rq) (w:World) (cur:Array Value) (h2:2<=l.length) (hl:l.length<=1000) (hnc:l.length<=cap) (hcm:cap<=maxLen) (hblk:w.heap[g]?=some (.cells cur 95 (0,0))) (hcs:cur.size=cap*4) (htake:cur.toList.take (l.length*4)=GR.flat aJ l):
 Calls prog 239 #[.slice (some ⟨g,0,none⟩) l.length cap,.int .i64 0,.int .i64 1] w λe w'=>
  e= .returned (.slice (some ⟨g,0,none⟩) (l.length - 1) cap)/\w'.heap[g]?=some (.cells (Mi cur.toList l).toArray 95 (0,0))/\w.grownBy w' (some g):=by
 obtain⟨i0,hi0,hz0,hz1,hz2⟩:=info_parts TB;have abS:cur.toList.length=cap*4:=Adp
 have hdl:(GR.flat aJ (l.drop 1)).length=(l.length - 1)*4:=Aca
 have hap:∀W:World,W.heap[g]?=some (.cells cur 95 (0,0))->∀ty dc,(Builtin.append_ #[38,38] ty #[.slice (some ⟨g,0,none⟩) 0 cap,.slice (some ⟨g,4,none⟩) (l.length - 1) dc]).run prog W= .ok (.slice (some ⟨g,0,none⟩) (l.length - 1) cap) (W.setRow g (zZ cur.toList l).toArray):=λW hW ty dc=>by
  have h:=run_append_room (P:=prog) W 38 ty 95 i0 underlying38 hi0 g 0 cap cur hW ⟨g,4,none⟩ (l.length - 1) dc (GR.flat aJ (l.drop 1)) (by rw [hz1,hdl])
   (λj v hj=>by
    rw [Addr.add_lit]
    have h1:(GR.flat aJ l)[4+j]?=some v:=by
     have:=(rJ l 1 Aaa).2;rw [<-List.getElem?_drop];rw [show(4:Nat)=1*4 from rfl,this];exact hj
    rw [<-htake,List.getElem?_take] at h1
    split at h1
    .have h2:W.cell? ⟨g,4+j,none⟩=cur[4+j]?:=cell_of_row W g (4+j) cur 95 (0,0) hW;rw [h2,<-Array.getElem?_toList];exact h1
    .cases h1)
   (λv hv=>iM _ v hv) Aaa (by rw [hz1,hdl,hcs];omega)
  rw [hz1,Nat.zero_add] at h
  exact h
 have hcl:∀W:World,W.heap[g]?=some (.cells cur 95 (0,0))->∀ty c,(Builtin.clear_ #[38] ty #[.slice (some ⟨g,(l.length - 1)*4,none⟩) 1 c]).run prog (W.setRow g (zZ cur.toList l).toArray)= .ok (.tuple #[]) ((W.setRow g (zZ cur.toList l).toArray).setRow g (Mi cur.toList l).toArray):=λW hW ty c=>by
  have hb:(W.setRow g (zZ cur.toList l).toArray).heap[g]?=some (.cells (zZ cur.toList l).toArray 95 (0,0)):=setRow_heap W g cur _ 95 _ hW
  exact Ho _ ty g ((l.length - 1)*4) c (zZ cur.toList l).toArray hb (by rw [List.size_toArray,FC _ _ h2 Aaa,abS];omega)
 have CV:=Hq (show∀W:World,Ge w W->((W.setRow g (zZ cur.toList l).toArray).setRow g (Mi cur.toList l).toArray).heap[g]?=some (.cells (Mi cur.toList l).toArray 95 (0,0))/\w.grownBy ((W.setRow g (zZ cur.toList l).toArray).setRow g (Mi cur.toList l).toArray) (some g) from λW hW=>
  ⟨setRow_heap _ g (zZ cur.toList l).toArray _ 95 _ (setRow_heap W g cur _ 95 _ (au hblk hW)),⟨hW.os,hW.tape,hW.output,by have:=hW.size;simpa using this,λk hl hk=>((setRow_other _ g k _ (λe=>hk Aao)).trans (setRow_other W g k _ (λe=>hk Aao))).trans (hW.block k hl)⟩⟩)
 have akl:=Hq hblk;have alp:l.length - (l.length - 1)=1:=Aaa
 have mixed:prog.follows .mixedOrders=true:=Aab
 have hc63:cap<=9223372036854775807:=Acf
 have hb1:(1:Int)<=(l.length:Int):=Aaa
 have hb2:¬(cap=1):=Aaa
 have hb3:¬(l.length=0):=Aaa
 have hnn:(l.length:Int) - 1=((l.length - 1:Nat):Int):=Aaa
 clear hcs hblk htake hcm abS hdl hi0 hz0 hz1 hz2;go_in
 go_wp2_with fail;refine dD 6 Aab ?_;show fC _ _ _ _ _ 8 (Array.replicate 8 false) _ _
 refine tk [0,1,2,3,4,5] ?_;iterate 6 (refine uS (λK hK=>?_);go_simp;refine hK _ ?_;clear hK K)
 refine jK ?_;refine bH Aab (λx hx=>?_);have aFB:=hap x (au akl hx);have aFC:=hcl x (au akl hx);have HF2:=Hq (CV x hx);clear hap hcl hx CV akl;refine aH 6 rfl Aab Aad ?_;refine Lib.wp_append_run x (.tmp 22) (.tmp 25) 38 38 rfl (.slice (some ⟨g,0,none⟩) 0 cap) (.slice (some ⟨g,4,none⟩) (l.length - 1) (cap - 1)) Aal Aal _ _ (aFB _ _) ?_;refine aH 7 rfl Aab Aad ?_;go_simp;refine wpAny_done Aab ?_;go_simp;go_wp2_with (simp only[alp,aFC])
 go_ret;exact⟨rfl,HF2.1,HF2.2⟩
theorem alg (B:Nat) (a:Option Addr) (cap:Nat) (l:List Rq) (w:World) (h2:2<=l.length) (hl:l.length<=1000) (ho:w.ownsRow B 95 4 (.slice a l.length cap) l.length (GR.flat aJ l)):
 Calls prog 239 #[.slice a l.length cap,.int .i64 0,.int .i64 1] w (J4 w B (.slice a l.length cap) (l.drop 1)):=by
 have hlen:(l.drop 1).length=l.length - 1:=by rw [List.length_drop]
 open axK in exact aaF
theorem afE {w0 w x:World} {wb:Nat} {n:Nd} {A:bV} {G:aY} {c:Nat->Nat} {v:Value} {L:List Mg} (h:WK w0 w wb n A G c v L) {r:List Pu×Bool} {a:Option Addr} {cp g:Nat} (hb:aI w x) (hg:w.heap.size<=g) (hp:wN x a g r.1):
 Calls prog 209 #[.pointer (some ⟨wb,0,none⟩),.slice a r.1.length cp,.bool r.2] x λe w'=>e= .returned (.bool r.2)/\∃A' G' c',WK w0 w' wb (if r.2=true then setPu n r.1 else n) A' G' c' v L/\A'.r=A.r:=by
 obtain⟨l,b⟩:=r;cases b with
 |false=>
  refine(BN wb a l.length cp x).mono ?_;rintro e w' ⟨rfl,rfl⟩;exact⟨rfl,A,G,c,h.step hb,rfl⟩
 |true=>
  refine(yF wb n A v a l.length cp x (h.step hb).blk).mono ?_;rintro e w' ⟨rfl,rfl⟩;exact⟨rfl,_,_,_,h.setPu hb hp (λy hy=>by rw [(eD hy).1];exact hg),rfl⟩
theorem WK.reqRow {w0 w:World} {wb:Nat} {n:Nd} {A:bV} {G:aY} {c:Nat->Nat} {v:Value} {L:List Mg} (h:WK w0 w wb n A G c v L) (i:Nat) (hi:i < n.reqs.length):∃g,A.r=some ⟨g,0,none⟩/\g≠wb/\g < w.heap.size/\(w.cell? ⟨g,i*4,none⟩=some (.int .i64 n.reqs[i].no)/\w.cell? ⟨g,i*4+1,none⟩=some (.string n.reqs[i].k)/\w.cell? ⟨g,i*4+2,none⟩=some (.int .i64 n.reqs[i].n)/\w.cell? ⟨g,i*4+3,none⟩=some (.int .i64 n.reqs[i].s))/\w.frozen? ⟨g,i*4+3,none⟩=false:=by
 obtain⟨a,cp,g,he,hW,hlt,hown⟩:=GR.W.of_own aS h.no.r;have hmem:g∈fp g n.reqs:=eG Aaa;obtain⟨ea,hg,hc,_,_,_,hf⟩:=GR.W.fourReq hW i hi;have hA:A.r=a:=by cases he;rfl
 refine⟨g,by rw [hA,ea],?_,hg,hc,hf⟩;intro hw;have h6:=h.no.cr g (hown g hmem);rw [hw,h.cw] at h6;cases h6
theorem WK.reqSet {w0 w:World} {wb:Nat} {n:Nd} {A:bV} {G:aY} {c:Nat->Nat} {v:Value} {L:List Mg} (h:WK w0 w wb n A G c v L) (i:Nat) (hi:i < n.reqs.length) (g:Nat) (hg:A.r=some ⟨g,0,none⟩):WK w0 (w.setCell ⟨g,i*4+3,none⟩ (.int .i64 2)) wb (eu n (n.reqs.set i (oI n.reqs[i]))) A G c v L:=by
 have ho:=h.no.r;have hcr:=h.no.cr;rw [hg] at ho hcr;have hc6:c g=6:=hcr g rfl;have hk:KC c 6 w (w.setCell ⟨g,i*4+3,none⟩ (.int .i64 2)):=KC.set hc6;have hno:=h.no;have hst:=(ho.stored (i*4+3) (.int .i64 2)).1;rw [O4 2 n.reqs i hi] at hst;have hlen:(n.reqs.set i (oI n.reqs[i])).length=n.reqs.length:=Aac
 refine⟨hk.below h.keep hno.lo Aaa h.keep.size,?_,⟨hk.w hno.k hno.ck Aaa,hk.w hno.p hno.cp Aaa,hk.own hno.o hno.co Aaa,hk.seen hno.s hno.c4 hno.ci Aaa Aaa,?_,hno.lo,hno.ck,hno.cp,hno.co,hno.c4,hno.ci,?_,hno.ni⟩,hk.own h.m h.cm Aaa,h.cm,h.cw⟩
 .have:=hk.obj h.blk (by rw [h.cw];omega);rw [this];show some (Obj.cells #[_,_,_,_,_,_,_,_,.slice A.r n.reqs.length A.cr,_] _ _)=some (Obj.cells #[_,_,_,_,_,_,_,_,.slice A.r (n.reqs.set i (oI n.reqs[i])).length A.cr,_] _ _)
  rw [hlen];rfl
 .show(w.setCell _ _).ownsRow _ _ _ (.slice A.r (n.reqs.set i (oI n.reqs[i])).length A.cr) (n.reqs.set i (oI n.reqs[i])).length (GR.flat aJ (n.reqs.set i (oI n.reqs[i])))
  rw [hlen,hg];exact hst
 .show∀x,(Value.slice A.r (n.reqs.set i (oI n.reqs[i])).length A.cr).ownBlock=some x->_
  rw [hlen];exact h.no.cr
theorem Rl (o:gQ) (hc:o.no<=n.old) (h:WK w0 w wb n A G c v L):Calls prog 177 #[.pointer (some ⟨wb,0,none⟩),jJ o] w λe w'=>e= .returned (.int .i64 (bC n o.no).2)/\∃A' G' c',WK w0 w' wb (bC n o.no).1 A' G' c' v L:=by
 have hR:bC n o.no=(n,2):=if_pos hc;rw [hR];have hd:decide (o.no<=n.old)=true:=decide_eq_true hc;clear hR;open aEW in exact Sc
theorem UD (o:gQ) (hok:gX n=true) (h0:0<=o.no) (h1:o.no<=1000000000) (hc:¬o.no<=n.old) (hf:nC n.reqs o.no=false) (h:WK w0 w wb n A G c v L):Calls prog 177 #[.pointer (some ⟨wb,0,none⟩),jJ o] w λe w'=>e= .returned (.int .i64 (bC n o.no).2)/\∃A' G' c',WK w0 w' wb (bC n o.no).1 A' G' c' v L:=by
 have hR:bC n o.no=(n,1):=by unfold bC;rw [if_neg hc,if_pos hf]
 rw [hR];have hd:decide (o.no<=n.old)=false:=decide_eq_false hc;have uP:=Hq (λw1 (hw:WK w0 w1 wb n A G c v L)=>M9 w0 w1 wb n A G c v L o.no hok h0 h1 hw);rw [hf] at uP;clear hR h0 h1 hok hf;open aEV in exact Sc
theorem IJ (o:gQ) (hok:gX n=true) (h0:0<=o.no) (h1:o.no<=1000000000) (hc:¬o.no<=n.old) (hf:nC n.reqs o.no=true) (hs:(n.reqs.getD (dS n.reqs o.no) default).s=1) (h:WK w0 w wb n A G c v L):Calls prog 177 #[.pointer (some ⟨wb,0,none⟩),jJ o] w λe w'=>e= .returned (.int .i64 (bC n o.no).2)/\∃A' G' c',WK w0 w' wb (bC n o.no).1 A' G' c' v L:=by
 have hR:bC n o.no=(n,1):=by unfold bC;rw [if_neg hc,if_neg Abj];rw [if_pos hs]
 exact aBg
theorem Rk (o:gQ) (hok:gX n=true) (h0:0<=o.no) (h1:o.no<=1000000000) (hc:¬o.no<=n.old) (hf:nC n.reqs o.no=true) (hs:(n.reqs.getD (dS n.reqs o.no) default).s=2) (h:WK w0 w wb n A G c v L):Calls prog 177 #[.pointer (some ⟨wb,0,none⟩),jJ o] w λe w'=>e= .returned (.int .i64 (bC n o.no).2)/\∃A' G' c',WK w0 w' wb (bC n o.no).1 A' G' c' v L:=by
 have hR:bC n o.no=(n,0):=by unfold bC;rw [if_neg hc,if_neg Abj];rw [if_neg Aaa,if_pos hs]
 exact aBg
theorem Za (o:gQ) (E:Nat->Addr) (hz:eX n 1048576) (hok:gX n=true) (h0:0<=o.no) (h1:o.no<=1000000000) (hc:¬o.no<=n.old) (hf:nC n.reqs o.no=true) (hs:(n.reqs.getD (dS n.reqs o.no) default).s=0) (h:WK w0 w wb n A G c v L) (he:iI w0 E):Calls prog 177 #[.pointer (some ⟨wb,0,none⟩),jJ o] w λe w'=>e= .returned (.int .i64 (bC n o.no).2)/\∃A' G' c',WK w0 w' wb (bC n o.no).1 A' G' c' v L:=by
 have hR:bC n o.no=(if (dJ n.pu (n.reqs.getD (dS n.reqs o.no) default).k 0 1 (-1) (n.reqs.getD (dS n.reqs o.no) default).n).2=true then
  (eu (setPu n (dJ n.pu (n.reqs.getD (dS n.reqs o.no) default).k 0 1 (-1) (n.reqs.getD (dS n.reqs o.no) default).n).1) (n.reqs.set (dS n.reqs o.no) (oI (n.reqs.getD (dS n.reqs o.no) default))),0) else(n,1)):=by
  unfold bC
  rw [if_neg hc,if_neg Abj,if_neg Aaa,if_neg Aaa]
 rw [hR];have hd:decide (o.no<=n.old)=false:=decide_eq_false hc;open avw in exact aau
theorem Zb (w0 w:World) (wb:Nat) (n:Nd) (A:bV) (G:aY) (c:Nat->Nat) (v:Value) (L:List Mg) (o:gQ) (E:Nat->Addr) (hz:eX n 1048576) (hok:gX n=true) (h0:0<=o.no) (h1:o.no<=1000000000) (h:WK w0 w wb n A G c v L) (he:iI w0 E):Calls prog 177 #[.pointer (some ⟨wb,0,none⟩),jJ o] w λe w'=>e= .returned (.int .i64 (bC n o.no).2)/\∃A' G' c',WK w0 w' wb (bC n o.no).1 A' G' c' v L:=by
 by_cases hc:o.no<=n.old
 .exact Rl w0 w wb n A G c v L o hc h
 cases hf:nC n.reqs o.no with
 |false=>exact UD w0 w wb n A G c v L o hok h0 h1 hc hf h
 |true=>
  have hil:=((nT n.reqs o.no).1 hf).1;have hgd:n.reqs.getD (dS n.reqs o.no) default=n.reqs[dS n.reqs o.no]:=by rw [List.getD_eq_getElem?_getD,List.getElem?_eq_getElem hil];rfl
  obtain⟨_,_,_,_,b1,b2⟩:=jV ((jc hok).2.2.1 _ (List.getElem_mem hil));rw [<-hgd] at b1 b2;by_cases s1:(n.reqs.getD (dS n.reqs o.no) default).s=1
  .exact IJ w0 w wb n A G c v L o hok h0 h1 hc hf s1 h
  by_cases s2:(n.reqs.getD (dS n.reqs o.no) default).s=2
  .exact Rk w0 w wb n A G c v L o hok h0 h1 hc hf s2 h
  .exact Za w0 w wb n A G c v L o E hz hok h0 h1 hc hf Aaa h he
end Go.Proofs.YtohmklmkjmlpjaaGreatDoor
