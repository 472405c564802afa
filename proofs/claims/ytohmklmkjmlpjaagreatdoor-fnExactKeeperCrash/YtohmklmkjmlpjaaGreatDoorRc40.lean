/- Parts. -/
import Derived.Test.YtohmklmkjmlpjaaGreatDoorRc39
namespace Go.Proofs.YtohmklmkjmlpjaaGreatDoor
open Go.Proofs.Tryz
set_option maxHeartbeats 8000000
set_option maxRecDepth 100000
open Go.RowKit
open Mth
variable (w0 w:World) (wb:Nat) (n:Nd) (A:bV) (G:aR) (c:Nat->Nat) (v:Value) (L:List Mg)
theorem nX {P:Program} (w:World) (dT sT ty elem:TypeId) (sz:Nat) (g o dLen dCap:Nat) (a:Addr) (sLen sCap:Nat) (cur:Array Value) (t:TypeId) (cs:List Value)
 (hu:P.underlying dT=some (.slice elem)) (hs:(P.info? elem).map (·.size)=some sz)
 (hg:w.heap[g]?=some (.cells cur t (0,0))) (hn:cs.length=Nat.min sLen dLen*sz)
 (hsrc:∀j v,cs[j]?=some v->w.cell? (a.add j)=some v) (hfit:o+cs.length<=cur.size) (h1:∀v∈cs,v.oneCell'=true):
 (Builtin.copy_ #[dT,sT] ty #[.slice (some ⟨g,o,none⟩) dLen dCap,.slice (some a) sLen sCap]).run P w=
  .ok (goInt (Nat.min sLen dLen)) (w.setRow g (cur.toList.take o++cs++cur.toList.drop (o+cs.length)).toArray):=by
 have hl:=run_loadCells_list (P:=P) w a cs hsrc;have hst:=run_storeCells_at P g o t cs 0 cur w hg (by simpa using hfit) h1;cases hq:P.info? elem with
 |none=>simp[hq] at hs
 |some i=>
  have hi:i.size=sz:=by simpa [hq] using hs
  rw [hn] at hl;simp[Builtin.copy_,run_underlying hu,Builtin.lenOf,Builtin.firstCells,sizeOf,typeInfo,hq,hi,hl,hst]
theorem Ux:(prog.info? 95).map (λi=>(i.zero,i.size,i.bytes))=some (some (.agg (fH 0 ByteArray.empty 0 0)),4,40):=Aab
theorem Nz:(prog.info? 95).map (·.size)=some 4:=Aab
def Li (w:World) (B:Nat) (v:Value) (l:List Rq) (e:Ending) (w':World):Prop:=
 ∃a cp,e= .returned (.slice a l.length cp)/\w'.ownsRow B 95 4 (.slice a l.length cp) l.length (GR.flat aJ l)/\w.grownBy w' v.ownBlock/\∀x,(Value.slice a l.length cp).ownBlock=some x->v.ownBlock=some x\/w.heap.size<=x
theorem Uy (B:Nat) (a:Option Addr) (cap:Nat) (l:List Rq) (q:Rq) (vb:Nat) (w:World) (hl:l.length<=1000) (hB:B<=w.heap.size) (ho:w.ownsRow B 95 4 (.slice a l.length cap) l.length (GR.flat aJ l)) (hv:w.heap[vb]?=some (.cells (fH q.no q.k q.n q.s) 95 (0,0))):
 Calls prog 238 #[.slice a l.length cap,.int .i64 l.length,.slice (some ⟨vb,0,none⟩) 1 1] w (Li w B (.slice a l.length cap) (l++[q])):=by
 obtain⟨i0,hi,hz0,hz1,hz2⟩:=aGV Ux;obtain⟨v',w',hr,h2,h3,h4⟩:=iU w B 38 38 95 i0 _ 4 40 underlying38 hi hz0 hz1 hz2 rfl Aae (.slice a l.length cap) l.length (GR.flat aJ l) ho ⟨vb,0,none⟩ 1 1 (aJ q) rfl (aG3 hv) (sK q) Aai Aaa hB;obtain⟨a2,c2,he,_⟩:=GR.own_at (enc:=aJ) (sz:=4) (l:=l++[q]) aN (by rw [aGp,jB];exact h2);rw [aGp] at he;have he2:v'= .slice a2 (l.length+1) c2:=he;subst he2
 have hle:l.length<=cap\/(a=none/\l.length=0/\cap=0):=by
  rcases ho.2 with⟨hx,hy⟩|⟨g,cp,cur,hx,_,_,hc,_⟩
  .simp only[aG4] at hx;exact .inr ⟨hx.1,hy,hx.2.2⟩
  .simp only[aG4] at hx;exact .inl Aaa
 have hcap:l.length<=cap:=by rcases hle with h|h<;>omega
 have hcm:cap<=9223372036854775807:=by
  rcases ho.2 with⟨hx,hy⟩|⟨g,cp,cur,hx,_,_,_,hc,_⟩
  .simp only[aG4] at hx;omega
  .simp only[aG4] at hx;unfold maxLen at hc;omega
 have H:=Hq (show Li w B (.slice a l.length cap) (l++[q]) (.returned (.slice a2 (l.length+1) c2)) w' from⟨a2,c2,by rw [aGp];rfl,by rw [aGp,jB];exact h2,h3,by rw [aGp];exact h4⟩);have hq:((l.length:Int) == (l.length:Int))=true:=Aac
 clear h2 h3 h4 ho hv hi hz0 hz1 hz2 hle he;cases a with
 |none=>
  go_in
  go_wp2_with (at_builtin;refine Lib.wpList_append_run _ rfl _ _ _ _ rfl _ _ rfl rfl _ _ hr ?_)
  go_ret;exact H
 |some ad=>
  go_in
  go_wp2_with (at_builtin;refine Lib.wpList_append_run _ rfl _ _ _ _ rfl _ _ rfl rfl _ _ hr ?_)
  all_goals
   try go_wp2_with (at_builtin;refine Lib.wpList_append_run _ rfl _ _ _ _ rfl _ _ rfl rfl _ _ hr ?_)
   go_ret
   exact H
theorem iB (l:List Rq):(GR.flat aJ l).length=l.length*4:=GR.flat_length aJ 4 aN l
theorem sQ (l:List Rq) (i:Nat) (hi:i<=l.length):(GR.flat aJ l).take (i*4)=GR.flat aJ (l.take i)/\(GR.flat aJ l).drop (i*4)=GR.flat aJ (l.drop i):=by
 have e:GR.flat aJ l=GR.flat aJ (l.take i)++GR.flat aJ (l.drop i):=by rw [<-GR.flat_append,aGW]
 have hlen:(GR.flat aJ (l.take i)).length=i*4:=by rw [iB,aGG,aHb hi]
 rw [e,<-hlen,aIg,List.drop_left];exact⟨rfl,rfl⟩
def tV (cur:List Value) (l:List Rq) (i:Nat):List Value:=cur.take ((i+1)*4)++GR.flat aJ (l.drop i)++cur.drop ((i+1)*4+(l.length - i)*4)
def Nt (cur:List Value) (l:List Rq) (i:Nat) (q:Rq):List Value:=(tV cur l i).take (i*4)++aJ q++(tV cur l i).drop (i*4+4)
theorem Q7 (cur:List Value) (l:List Rq) (i:Nat) (hi:i < l.length) (hc:(l.length+1)*4<=cur.length):(tV cur l i).length=cur.length:=by
 unfold tV;exact ajo
theorem adK (cur:List Value) (l:List Rq) (i:Nat) (q:Rq) (hi:i < l.length) (hc:(l.length+1)*4<=cur.length):(Nt cur l i q).length=cur.length:=by
 have h1:=Q7 cur l i hi hc;unfold Nt;exact ajv
theorem Zl (cur:List Value) (l:List Rq) (i:Nat) (q:Rq) (hi:i < l.length) (hc:(l.length+1)*4<=cur.length) (ht:cur.take (l.length*4)=GR.flat aJ l):(Nt cur l i q).take ((l.length+1)*4)=GR.flat aJ (l.take i++q::l.drop i):=by
 have e1:(tV cur l i).take (i*4)=GR.flat aJ (l.take i):=by
  unfold tV;rw [aGN,List.take_append_of_le_length Abk,aHP,aHb Aaa,<-(sQ l i Aaa).1,<-ht,aHP,aHb Aaa]
 have hl1:(cur.take ((i+1)*4)).length=i*4+4:=Abk
 have e2:(tV cur l i).drop (i*4+4)=GR.flat aJ (l.drop i)++cur.drop ((i+1)*4+(l.length - i)*4):=by
  unfold tV;rw [aGN,<-hl1,List.drop_left]
 have hd:(GR.flat aJ (l.drop i)).length=(l.length - i)*4:=Acb
 have ht2:(GR.flat aJ (l.take i)).length=i*4:=by rw [iB,aGG,aHb Aaa]
 unfold Nt;rw [e1,e2,GR.flat_append,GR.flat_cons,<-aGN];rw [show(l.length+1)*4=(GR.flat aJ (l.take i)++aJ q++GR.flat aJ (l.drop i)).length by rw [aGp,aGp,hd,ht2];show _=_+4+_;omega,aIg];rw [aGN]
theorem MX (g cap i:Nat) (l:List Rq) (q:Rq) (vb:Nat) (w:World) (cur:Array Value) (hl:l.length<=1000) (hi:i < l.length) (hroom:l.length+1<=cap) (hcm:cap<=maxLen) (hvb:vb≠g) (hblk:w.heap[g]?=some (.cells cur 95 (0,0))) (hcs:cur.size=cap*4) (htake:cur.toList.take (l.length*4)=GR.flat aJ l) (hv:w.heap[vb]?=some (.cells (fH q.no q.k q.n q.s) 95 (0,0))):
 Calls prog 238 #[.slice (some ⟨g,0,none⟩) l.length cap,.int .i64 i,.slice (some ⟨vb,0,none⟩) 1 1] w λe w'=>
  e= .returned (.slice (some ⟨g,0,none⟩) (l.length+1) cap)/\w'.heap[g]?=some (.cells (Nt cur.toList l i q).toArray 95 (0,0))/\w.grownBy w' (some g):=by
 have hcl:(l.length+1)*4<=cur.toList.length:=Adc
 have hdl:(GR.flat aJ (l.drop i)).length=(l.length - i)*4:=Acb
 have hcp1:∀ty dl sl dc sc,dl=l.length - i->sl=l.length+1 - i->(Builtin.copy_ #[38,38] ty #[.slice (some ⟨g,(i+1)*4,none⟩) dl dc,.slice (some ⟨g,i*4,none⟩) sl sc]).run prog w.drew= .ok (goInt ((l.length - i:Nat):Int)) (w.drew.setRow g (tV cur.toList l i).toArray):=λty dl sl dc sc e1 e2=>by
  subst e1 e2
  have h:=nX (P:=prog) w.drew 38 38 ty 95 4 g ((i+1)*4) (l.length - i) dc ⟨g,i*4,none⟩ (l.length+1 - i) sc cur 95 (GR.flat aJ (l.drop i)) underlying38 Nz hblk (by rw [hdl];simp only[Nat.min_def];split<;>omega)
   (λj v hj=>by
    rw [aIk]
    have h1:(GR.flat aJ l)[i*4+j]?=some v:=by rw [<-List.getElem?_drop,(sQ l i Aaa).2];exact hj
    rw [<-htake,List.getElem?_take] at h1
    split at h1
    .have h2:w.drew.cell? ⟨g,i*4+j,none⟩=cur[i*4+j]?:=aGu w.drew g (i*4+j) cur 95 (0,0) hblk;rw [h2,<-Array.getElem?_toList];exact h1
    .cases h1)
   (by rw [hdl,hcs];omega) (λv hv=>jq _ v hv)
  rw [hdl,show Nat.min (l.length+1 - i) (l.length - i)=l.length - i by simp only[Nat.min_def];split<;>omega] at h
  exact h
 have hr1:=Q7 cur.toList l i hi hcl;have acf:cur.toList.length=cap*4:=Ado
 have alu:(w.drew.setRow g (tV cur.toList l i).toArray).heap[g]?=some (.cells (tV cur.toList l i).toArray 95 (0,0)):=setRow_heap w.drew g cur _ 95 _ hblk
 have hvr:∀j v,(aJ q)[j]?=some v->(w.drew.setRow g (tV cur.toList l i).toArray).cell? ⟨vb,0+j,none⟩=some v:=λj v hj=>by
  have h1:(w.drew.setRow g (tV cur.toList l i).toArray).heap[vb]?=w.heap[vb]?:=setRow_other w.drew g vb _ hvb
  rw [aG0 (w:=w) (a:=⟨vb,0+j,none⟩) h1,<-aIk]
  exact aG3 hv j v hj
 have hcp2:∀ty dl dc,dl=l.length+1 - i->(Builtin.copy_ #[38,38] ty #[.slice (some ⟨g,i*4,none⟩) dl dc,.slice (some ⟨vb,0,none⟩) 1 1]).run prog (w.drew.setRow g (tV cur.toList l i).toArray)= .ok (goInt 1) ((w.drew.setRow g (tV cur.toList l i).toArray).setRow g (Nt cur.toList l i q).toArray):=λty dl dc e1=>by
  subst e1
  have h:=nX (P:=prog) (w.drew.setRow g (tV cur.toList l i).toArray) 38 38 ty 95 4 g (i*4) (l.length+1 - i) dc ⟨vb,0,none⟩ 1 1 (tV cur.toList l i).toArray 95 (aJ q) underlying38 Nz alu (by show 4=_;simp only[Nat.min_def];split<;>omega)
   (λj v hj=>by rw [aIk];exact hvr j v hj)
   (by show i*4+4<=_;rw [aHh,hr1,acf];omega) (sK q)
  rw [show Nat.min 1 (l.length+1 - i)=1 by simp only[Nat.min_def];split<;>omega] at h
  exact h
 have hfin:=Hq (show((w.drew.setRow g (tV cur.toList l i).toArray).setRow g (Nt cur.toList l i q).toArray).heap[g]?=some (.cells (Nt cur.toList l i q).toArray 95 (0,0))/\w.grownBy ((w.drew.setRow g (tV cur.toList l i).toArray).setRow g (Nt cur.toList l i q).toArray) (some g) from
  ⟨setRow_heap _ g (tV cur.toList l i).toArray _ 95 _ alu,⟨rfl,rfl,rfl,Aac,λk _ hk=>(setRow_other _ g k _ (λe=>hk Aap)).trans (setRow_other w.drew g k _ (λe=>hk Aap))⟩⟩)
 have hov:∀lb cb,(callFunc 262 #[.slice (some ⟨vb,0,none⟩) 1 1,.slice (some ⟨g,(i+1)*4,none⟩) lb cb]).run prog w= .ok (.value (.bool false)) w:=λlb cb=>by
  rw [aG9 func262 Aab Aab Aab (e:=Extern.SlicesOverlaps.overlaps #[38,38] #[4]) Aab,
   Lib.run_overlaps_apart w 38 4 95 underlying38 4 (λw=>Aab) ⟨vb,0,none⟩ ⟨g,(i+1)*4,none⟩ 1 1 lb cb hvb 95 95 4 cur.size (by unfold World.shape?;rw [hv];rfl) (by unfold World.shape?;rw [hblk]) Aaa (aj hv 0) (aj hv 4)]
  rfl
 open au4 in exact ahn
def AR (R:List Value) (i:Nat) (q:Rq):List Value:=R.take (i*4)++aJ q++R.drop (i*4+4)
def I8 (R:List Value) (l:List Rq) (i:Nat) (q:Rq):List Value:=(AR R i q).take ((i+1)*4)++GR.flat aJ (l.drop i)++(AR R i q).drop ((i+1)*4+(l.length - i)*4)
theorem Q8 (R:List Value) (i:Nat) (q:Rq) (h:i*4+4<=R.length):(AR R i q).length=R.length:=by
 unfold AR;rw [aGp,aGp,aGG,aGS];show _+4+_=_
 omega
theorem adL (R:List Value) (l:List Rq) (i:Nat) (q:Rq) (hi:i < l.length) (h:(l.length+1)*4<=R.length):(I8 R l i q).length=R.length:=by
 have h1:=Q8 R i q Aaa;unfold I8;rw [aGp,aGp,iB,aGG,aGS,aGS,h1];omega
theorem Zm (R:List Value) (l:List Rq) (i:Nat) (q:Rq) (hi:i < l.length) (_h:(l.length+1)*4<=R.length) (ht:R.take (i*4)=GR.flat aJ (l.take i)):(I8 R l i q).take ((l.length+1)*4)=GR.flat aJ (l.take i++q::l.drop i):=by
 have ht2:(GR.flat aJ (l.take i)).length=i*4:=by rw [iB,aGG,aHb Aaa]
 have hd:(GR.flat aJ (l.drop i)).length=(l.length - i)*4:=Acb
 have e1:(AR R i q).take ((i+1)*4)=GR.flat aJ (l.take i)++aJ q:=by
  unfold AR;rw [ht];have:(i+1)*4=(GR.flat aJ (l.take i)++aJ q).length:=by rw [aGp,ht2];show _=_+4;omega
  rw [this,aIg]
 unfold I8;rw [e1,GR.flat_append,GR.flat_cons,<-aGN];rw [show(l.length+1)*4=(GR.flat aJ (l.take i)++aJ q++GR.flat aJ (l.drop i)).length by rw [aGp,aGp,hd,ht2];show _=_+4+_;omega,aIg]
theorem Qr (g cap i:Nat) (l:List Rq) (q:Rq) (vb:Nat) (w:World) (cur:Array Value) (hl:l.length<=1000) (hi:i < l.length) (hnc:l.length<=cap) (hroom:cap < l.length+1) (hblk:w.heap[g]?=some (.cells cur 95 (0,0))) (htake:cur.toList.take (l.length*4)=GR.flat aJ l) (hv:w.heap[vb]?=some (.cells (fH q.no q.k q.n q.s) 95 (0,0))):
 Calls prog 238 #[.slice (some ⟨g,0,none⟩) l.length cap,.int .i64 i,.slice (some ⟨vb,0,none⟩) 1 1] w λe w'=>
  ∃G cur',e= .returned (.slice (some ⟨w.heap.size,0,none⟩) (l.length+1) G)/\l.length+1<=G/\G<=maxLen/\w'.heap[w.heap.size]?=some (.cells cur' 95 (0,0))/\cur'.size=G*4/\cur'.toList.take ((l.length+1)*4)=GR.flat aJ (l.take i++q::l.drop i)/\w.grownBy w' none:=by
 obtain⟨i0,hi0,hz0,hz1,hz2⟩:=aGV Ux;have hgw:=aA hblk;have hvw:=aA hv;have hdl:(GR.flat aJ (l.drop i)).length=(l.length - i)*4:=Acb
 have htl:(GR.flat aJ (l.take i)).length=i*4:=by rw [iB,aGG,aHb Aaa]
 have hcell:∀(W:World),W.heap[g]?=w.heap[g]?->∀j v,(GR.flat aJ l)[j]?=some v->W.cell? ⟨g,j,none⟩=some v:=λW hW j v hj=>by
  have h2:W.cell? ⟨g,j,none⟩=cur[j]?:=aGu W g j cur 95 (0,0) (hW.trans hblk)
  rw [<-htake,List.getElem?_take] at hj
  split at hj
  .rw [h2,<-Array.getElem?_toList];exact hj
  .cases hj
 have hold:(Builtin.firstCells i0.size i (.slice (some ⟨g,0,none⟩) i cap)).run prog w.drew= .ok (GR.flat aJ (l.take i)).toArray w.drew:=by
  rw [hz1]
  exact run_firstCells_some w.drew 4 i ⟨g,0,none⟩ i cap _ htl (λj v hj=>by
   rw [aIk,aHj]
   refine hcell w.drew rfl j v ?_
   rw [<-(sQ l i Aaa).1,List.getElem?_take] at hj
   split at hj
   .exact hj
   .cases hj)
 have hkk:(l.length:Int)+1 - (i:Int)=((l.length+1 - i:Nat):Int):=Aaa
 have hik:i+(l.length+1 - i)=l.length+1:=Aaa
 obtain⟨G,hG⟩:∃G,G=grownCap w (l.length+1) cap 95:=⟨_,rfl⟩;obtain⟨R,hR⟩:∃R:Array Value,R=(GR.flat aJ (l.take i)).toArray++Builtin.zeroCells (Value.cells (.agg (fH 0 ByteArray.empty 0 0))) (l.length+1 - i)++Builtin.zeroCells (Value.cells (.agg (fH 0 ByteArray.empty 0 0))) (G - (l.length+1)):=⟨_,rfl⟩
 have hrz:∀ty,(Builtin.append_ #[38,3] ty #[.slice (some ⟨g,0,none⟩) i cap,.int .i64 ((l.length:Int)+1 - (i:Int))]).run prog w= .ok (.slice (some ⟨w.heap.size,0,none⟩) (l.length+1) G) (w.drew.alloc (.cells R 95)):=λty=>by
  have h:=Lib.run_append_grow_zeros w 38 3 ty 95 i0 _ .i64 .i64 underlying38 underlying3 hi0 hz0 (some ⟨g,0,none⟩) i cap _ hold (l.length+1 - i) Aaa Aaa Aaa Aaa Abe (by rw [hz2,hik];exact growslice_fits hroom (by omega))
  rw [hik,<-hG,<-hR] at h
  rw [hkk]
  exact h
 have hGn:l.length+1<=G:=by rw [hG];exact grownCap_ge w _ _ _
 have hGm:G<=maxLen:=by rw [hG];exact grownCap_le_maxLen w (l.length+1) cap 95 Aai
 have hRs:R.size=G*4:=by
  rw [hR];simp only[Array.size_append,aHh,size_zeroCells,htl];show i*4+(l.length+1 - i)*4+(G - (l.length+1))*4=_
  omega
 have hRl:R.toList.length=G*4:=by rw [show R.toList.length=R.size from aG2,hRs]
 have hRt:R.toList.take (i*4)=GR.flat aJ (l.take i):=by
  rw [hR];simp only[aIe,aGN];rw [<-htl,aIg]
 clear hR hG hold hkk hik
 have hA:∀W:World,W.heap=(w.drew.alloc (.cells R 95)).heap->∀ty dl dc,dl=l.length+1 - i->(Builtin.copy_ #[38,38] ty #[.slice (some ⟨w.heap.size,i*4,none⟩) dl dc,.slice (some ⟨vb,0,none⟩) 1 1]).run prog W= .ok (goInt 1) (W.setRow w.heap.size (AR R.toList i q).toArray):=λW hW ty dl dc e1=>by
  subst e1
  have hb:W.heap[w.heap.size]?=some (.cells R 95 (0,0)):=by rw [hW];exact aGg w.drew _
  have hvb:W.heap[vb]?=w.heap[vb]?:=by rw [hW];exact aGv w.drew _ vb hvw
  have h:=nX (P:=prog) W 38 38 ty 95 4 w.heap.size (i*4) (l.length+1 - i) dc ⟨vb,0,none⟩ 1 1 R 95 (aJ q) underlying38 Nz hb (by show 4=_;simp only[Nat.min_def];split<;>omega)
   (λj v hj=>by
    rw [aG0 (w:=w) (a:=(⟨vb,0,none⟩:Addr).add j) (by rw [aIk];exact hvb)]
    exact aG3 hv j v hj)
   (by show i*4+4<=_;omega) (sK q)
  rw [show Nat.min 1 (l.length+1 - i)=1 by simp only[Nat.min_def];split<;>omega] at h
  exact h
 have hBb:∀W:World,W.heap=((w.drew.alloc (.cells R 95)).setRow w.heap.size (AR R.toList i q).toArray).heap->W.heap[w.heap.size]?=some (.cells (AR R.toList i q).toArray 95 (0,0))/\W.heap[g]?=w.heap[g]?:=λW hW=>by
  rw [hW]
  exact⟨setRow_heap _ w.heap.size R _ 95 _ (aGg w.drew _),(setRow_other _ w.heap.size g _ Aaa).trans (aGv w.drew _ g hgw)⟩
 have hB:∀W:World,W.heap=((w.drew.alloc (.cells R 95)).setRow w.heap.size (AR R.toList i q).toArray).heap->∀ty dl sl dc sc,dl=l.length - i->sl=l.length - i->(Builtin.copy_ #[38,38] ty #[.slice (some ⟨w.heap.size,(i+1)*4,none⟩) dl dc,.slice (some ⟨g,i*4,none⟩) sl sc]).run prog W= .ok (goInt ((l.length - i:Nat):Int)) (W.setRow w.heap.size (I8 R.toList l i q).toArray):=λW hW ty dl sl dc sc e1 e2=>by
  subst e1 e2
  obtain⟨hb1,hb2⟩:=hBb W hW
  have h:=nX (P:=prog) W 38 38 ty 95 4 w.heap.size ((i+1)*4) (l.length - i) dc ⟨g,i*4,none⟩ (l.length - i) sc (AR R.toList i q).toArray 95 (GR.flat aJ (l.drop i)) underlying38 Nz hb1 (by rw [hdl];simp only[Nat.min_def];split<;>omega)
   (λj v hj=>by
    rw [aIk]
    exact hcell W hb2 _ v (by rw [<-List.getElem?_drop,(sQ l i Aaa).2];exact hj))
   (by rw [hdl,aHh,Q8 _ _ _ Aaa];omega) (λv hv=>jq _ v hv)
  rw [hdl,show Nat.min (l.length - i) (l.length - i)=l.length - i by simp only[Nat.min_def];split<;>omega] at h
  exact h
 have zB:=Hq (show∀W:World,W.heap=((w.drew.alloc (.cells R 95)).setRow w.heap.size (AR R.toList i q).toArray).heap->W.os=w.os->W.tape=w.tape->W.output=w.output->
  (W.setRow w.heap.size (I8 R.toList l i q).toArray).heap[w.heap.size]?=some (.cells (I8 R.toList l i q).toArray 95 (0,0))/\w.grownBy (W.setRow w.heap.size (I8 R.toList l i q).toArray) none from λW hW e1 e2 e3=>by
  obtain⟨hb1,hb2⟩:=hBb W hW
  refine⟨setRow_heap _ w.heap.size _ _ 95 _ hb1,⟨e1,e2,e3,?_,λk hk _=>?_⟩⟩
  .have:=congrArg Array.size hW;simp at this ⊢;omega
  .refine(setRow_other _ w.heap.size k _ Aaa).trans ?_;rw [hW]
   exact(setRow_other _ w.heap.size k _ Aaa).trans (aGv w.drew _ k hk))
 have wB:=Hq (show(I8 R.toList l i q).toArray.size=G*4 by rw [aHh,adL _ _ _ _ hi Aaa,hRl]);have OV:=Hq (show(I8 R.toList l i q).toArray.toList.take ((l.length+1)*4)=_ from Zm R.toList l i q hi Aaa hRt);open au5 in exact ahn
def qE (l:List Rq) (i:Nat) (q:Rq):List Rq:=l.take i++q::l.drop i
theorem Qm (l:List Rq) (i:Nat) (q:Rq) (hi:i<=l.length):(qE l i q).length=l.length+1:=by
 unfold qE;rw [aGp,aHt,aGG,aGS];omega
theorem alU (B:Nat) (a:Option Addr) (cap i:Nat) (l:List Rq) (q:Rq) (vb:Nat) (w:World) (hl:l.length<=1000) (hi:i<=l.length) (hB:B<=w.heap.size) (ho:w.ownsRow B 95 4 (.slice a l.length cap) l.length (GR.flat aJ l)) (hv:w.heap[vb]?=some (.cells (fH q.no q.k q.n q.s) 95 (0,0))) (hne:∀x,(Value.slice a l.length cap).ownBlock=some x->vb≠x):
 Calls prog 238 #[.slice a l.length cap,.int .i64 i,.slice (some ⟨vb,0,none⟩) 1 1] w (Li w B (.slice a l.length cap) (qE l i q)):=by
 have hlen:=Qm l i q hi;by_cases he:i=l.length
 .subst he;have e:qE l l.length q=l++[q]:=by unfold qE;rw [aGL,List.drop_length]
  rw [e];exact Uy B a cap l q vb w hl hB ho hv
 have hi2:i < l.length:=Aaa
 have hfl:(GR.flat aJ (qE l i q)).length=(l.length+1)*4:=by rw [iB,hlen]
 open av3 in exact aaU
abbrev zQ:List Value:=[.int .i64 0,.string ⟨#[]⟩,.int .i64 0,.int .i64 0]
theorem I9 (w:World) (ty:TypeId) (g o c:Nat) (cur:Array Value) (hg:w.heap[g]?=some (.cells cur 95 (0,0))) (hfit:o+4<=cur.size):
 (Builtin.clear_ #[38] ty #[.slice (some ⟨g,o,none⟩) 1 c]).run prog w= .ok (.tuple #[]) (w.setRow g (cur.toList.take o++zQ++cur.toList.drop (o+4)).toArray):=by
 have hst:=run_storeCells_at prog g o 95 zQ 0 cur w hg (by simpa using hfit) (by intro u hu;simp only[zQ,aGF,aHx,or_false] at hu;rcases hu with rfl|rfl|rfl|rfl<;>rfl);have hzc:(Builtin.zeroCells (Value.cells (.agg (fH 0 ⟨#[]⟩ 0 0))) 1).toList=zQ:=Aab
 have h1:(Builtin.clear_ #[38] ty #[.slice (some ⟨g,o,none⟩) 1 c]).run prog w=((storeCells ⟨g,o,none⟩ zQ).run prog w).andThen λ_ w'=> .ok (.tuple #[]) w':=by
  simp[Builtin.clear_,run_underlying underlying38];rw [hzc]
 rw [h1,hst];rfl
def AU (cur:List Value) (l:List Rq):List Value:=cur.take (0*4)++GR.flat aJ (l.drop 1)++cur.drop (0*4+(GR.flat aJ (l.drop 1)).length)
def Nu (cur:List Value) (l:List Rq):List Value:=(AU cur l).take ((l.length - 1)*4)++zQ++(AU cur l).drop ((l.length - 1)*4+4)
theorem Gl (cur:List Value) (l:List Rq) (h2:2<=l.length) (hc:l.length*4<=cur.length):(AU cur l).length=cur.length:=by
 unfold AU;exact ajo
theorem adM (cur:List Value) (l:List Rq) (h2:2<=l.length) (hc:l.length*4<=cur.length):(Nu cur l).length=cur.length:=by
 have h1:=Gl cur l h2 hc;unfold Nu;exact ajv
theorem Zn (cur:List Value) (l:List Rq) (h2:2<=l.length) (hc:l.length*4<=cur.length):(Nu cur l).take ((l.length - 1)*4)=GR.flat aJ (l.drop 1):=by
 have h1:=Gl cur l h2 hc;have hd:(GR.flat aJ (l.drop 1)).length=(l.length - 1)*4:=Acb
 unfold Nu;rw [aGN,List.take_append_of_le_length (by rw [aGG,h1];omega),aHP,Nat.min_self];unfold AU;rw [Nat.zero_mul,aIf,aHI,<-hd,aIg]
theorem Yd (g cap:Nat) (l:List Rq) (w:World) (cur:Array Value) (h2:2<=l.length) (hl:l.length<=1000) (hnc:l.length<=cap) (hcm:cap<=maxLen) (hblk:w.heap[g]?=some (.cells cur 95 (0,0))) (hcs:cur.size=cap*4) (htake:cur.toList.take (l.length*4)=GR.flat aJ l):
 Calls prog 239 #[.slice (some ⟨g,0,none⟩) l.length cap,.int .i64 0,.int .i64 1] w λe w'=>
  e= .returned (.slice (some ⟨g,0,none⟩) (l.length - 1) cap)/\w'.heap[g]?=some (.cells (Nu cur.toList l).toArray 95 (0,0))/\w.grownBy w' (some g):=by
 obtain⟨i0,hi0,hz0,hz1,hz2⟩:=aGV Ux;have acf:cur.toList.length=cap*4:=Ado
 have hdl:(GR.flat aJ (l.drop 1)).length=(l.length - 1)*4:=Acb
 have hap:∀W:World,W.heap[g]?=some (.cells cur 95 (0,0))->∀ty dc,(Builtin.append_ #[38,38] ty #[.slice (some ⟨g,0,none⟩) 0 cap,.slice (some ⟨g,4,none⟩) (l.length - 1) dc]).run prog W= .ok (.slice (some ⟨g,0,none⟩) (l.length - 1) cap) (W.setRow g (AU cur.toList l).toArray):=λW hW ty dc=>by
  have h:=run_append_room (P:=prog) W 38 ty 95 i0 underlying38 hi0 g 0 cap cur hW ⟨g,4,none⟩ (l.length - 1) dc (GR.flat aJ (l.drop 1)) (by rw [hz1,hdl])
   (λj v hj=>by
    rw [aIk]
    have h1:(GR.flat aJ l)[4+j]?=some v:=by
     have:=(sQ l 1 Aaa).2;rw [<-List.getElem?_drop];rw [show(4:Nat)=1*4 from rfl,this];exact hj
    rw [<-htake,List.getElem?_take] at h1
    split at h1
    .have h2:W.cell? ⟨g,4+j,none⟩=cur[4+j]?:=aGu W g (4+j) cur 95 (0,0) hW;rw [h2,<-Array.getElem?_toList];exact h1
    .cases h1)
   (λv hv=>jq _ v hv) Aaa (by rw [hz1,hdl,hcs];omega)
  rw [hz1,aHj] at h
  exact h
 have hcl:∀W:World,W.heap[g]?=some (.cells cur 95 (0,0))->∀ty c,(Builtin.clear_ #[38] ty #[.slice (some ⟨g,(l.length - 1)*4,none⟩) 1 c]).run prog (W.setRow g (AU cur.toList l).toArray)= .ok (.tuple #[]) ((W.setRow g (AU cur.toList l).toArray).setRow g (Nu cur.toList l).toArray):=λW hW ty c=>by
  have hb:(W.setRow g (AU cur.toList l).toArray).heap[g]?=some (.cells (AU cur.toList l).toArray 95 (0,0)):=setRow_heap W g cur _ 95 _ hW
  exact I9 _ ty g ((l.length - 1)*4) c (AU cur.toList l).toArray hb (by rw [aHh,Gl _ _ h2 Aaa,acf];omega)
 have zB:=Hq (show∀W:World,Ge w W->((W.setRow g (AU cur.toList l).toArray).setRow g (Nu cur.toList l).toArray).heap[g]?=some (.cells (Nu cur.toList l).toArray 95 (0,0))/\w.grownBy ((W.setRow g (AU cur.toList l).toArray).setRow g (Nu cur.toList l).toArray) (some g) from λW hW=>
  ⟨setRow_heap _ g (AU cur.toList l).toArray _ 95 _ (setRow_heap W g cur _ 95 _ (au hblk hW)),⟨hW.os,hW.tape,hW.output,by have:=hW.size;simpa using this,λk hl hk=>((setRow_other _ g k _ (λe=>hk Aap)).trans (setRow_other W g k _ (λe=>hk Aap))).trans (hW.block k hl)⟩⟩)
 have akc:=Hq hblk;have alm:l.length - (l.length - 1)=1:=Aaa
 have mixed:prog.follows .mixedOrders=true:=Aab
 have hc63:cap<=9223372036854775807:=Acg
 have hb1:(1:Int)<=(l.length:Int):=Aaa
 have hb2:¬(cap=1):=Aaa
 have hb3:¬(l.length=0):=Aaa
 have hnn:(l.length:Int) - 1=((l.length - 1:Nat):Int):=Aaa
 clear hcs hblk htake hcm acf hdl hi0 hz0 hz1 hz2;go_in
 go_wp2_with fail;refine dx 6 Aab ?_;show fA _ _ _ _ _ 8 (Array.replicate 8 false) _ _
 refine tk [0,1,2,3,4,5] ?_;iterate 6 (refine vX (λK hK=>?_);go_simp;refine hK _ ?_;clear hK K)
 refine kD ?_;refine bE Aab (λx hx=>?_);have aDL:=hap x (au akc hx);have aDM:=hcl x (au akc hx);have HF2:=Hq (zB x hx);clear hap hcl hx zB akc;refine aG 6 rfl Aab Aad ?_;refine aHD x (.tmp 22) (.tmp 25) 38 38 rfl (.slice (some ⟨g,0,none⟩) 0 cap) (.slice (some ⟨g,4,none⟩) (l.length - 1) (cap - 1)) Aak Aak _ _ (aDL _ _) ?_;refine aG 7 rfl Aab Aad ?_;go_simp;refine wpAny_done Aab ?_;go_simp;go_wp2_with (simp only[alm,aDM])
 go_ret;exact⟨rfl,HF2.1,HF2.2⟩
theorem ale (B:Nat) (a:Option Addr) (cap:Nat) (l:List Rq) (w:World) (h2:2<=l.length) (hl:l.length<=1000) (ho:w.ownsRow B 95 4 (.slice a l.length cap) l.length (GR.flat aJ l)):
 Calls prog 239 #[.slice a l.length cap,.int .i64 0,.int .i64 1] w (Li w B (.slice a l.length cap) (l.drop 1)):=by
 have hlen:(l.drop 1).length=l.length - 1:=by rw [aGS]
 open av4 in exact aaU
theorem WK.reqPut {w0 w w6:World} {wb:Nat} {n:Nd} {A:bV} {G:aR} {c:Nat->Nat} {v:Value} {L:List Mg} {a6:Option Addr} {c6:Nat} {l:List Rq} (h:WK w0 w wb n A G c v L) (hown:w6.ownsRow w0.heap.size 95 4 (.slice a6 l.length c6) l.length (GR.flat aJ l)) (hg:w.grownBy w6 (Value.slice A.r n.reqs.length A.cr).ownBlock) (hv:∀x,(Value.slice a6 l.length c6).ownBlock=some x->(Value.slice A.r n.reqs.length A.cr).ownBlock=some x\/w.heap.size<=x):
 w6.heap[wb]?=some (.cells (Xx n A v) 192 (0,0))/\WK w0 (w6.setCell ⟨wb,8,none⟩ (.slice a6 l.length c6)) wb (eY n l) ⟨A.k,A.p,A.o,A.s,a6,A.ck,A.cp,A.co,A.cs,c6⟩ G (newC w.heap.size 6 c) v L:=by
 have h1:=h.recol (c':=newC w.heap.size 6 c) (λx hx=>fE hx);have hk1:KC (newC w.heap.size 6 c) 6 w w6:=KC.grown hg h1.no.cr;have hblk:=hk1.obj h1.blk (by rw [h1.cw];omega);have hkeep:=hk1.below h1.keep h1.no.lo Aaa h1.keep.size;have hk2:KC (newC w.heap.size 6 c) 8 w6 (w6.setCell ⟨wb,8,none⟩ (.slice a6 l.length c6)):=KC.set h1.cw
 have hcr:∀x,(Value.slice a6 l.length c6).ownBlock=some x->newC w.heap.size 6 c x=6:=λx hx=>by
  rcases hv x hx with hx'|hx'
  .exact h1.no.cr x hx'
  .exact bQ hx'
 have hno:=h1.no;refine⟨hblk,hk2.below hkeep hno.lo Aaa hkeep.size,?_,⟨?_,?_,?_,?_,?_,hno.lo,hno.ck,hno.cp,hno.co,hno.c4,hno.ci,hcr,hno.ni⟩,?_,h1.cm,h1.cw⟩
 .exact aT hblk 8 (.slice a6 l.length c6)
 .exact hk2.w (hk1.w hno.k hno.ck Aaa) hno.ck Aaa
 .exact hk2.w (hk1.w hno.p hno.cp Aaa) hno.cp Aaa
 .exact hk2.own (hk1.own hno.o hno.co Aaa) hno.co Aaa
 .exact ajs
 .exact hk2.own hown hcr Aaa
 .exact hk2.own (hk1.own h1.m h1.cm Aaa) h1.cm Aaa
theorem WK.oldPut {w0 w:World} {wb:Nat} {n:Nd} {A:bV} {G:aR} {c:Nat->Nat} {v:Value} {L:List Mg} (h:WK w0 w wb n A G c v L) (y:Int):WK w0 (w.setCell ⟨wb,7,none⟩ (.int .i64 y)) wb (pz n y) A G c v L:=by
 have hk2:KC c 8 w (w.setCell ⟨wb,7,none⟩ (.int .i64 y)):=KC.set h.cw;have hno:=h.no.kc hk2 Aaa;exact⟨hk2.below h.keep h.no.lo Aaa h.keep.size,aT h.blk 7 (.int .i64 y),⟨hno.k,hno.p,hno.o,hno.s,hno.r,hno.lo,hno.ck,hno.cp,hno.co,hno.c4,hno.ci,hno.cr,hno.ni⟩,hk2.own h.m h.cm Aaa,h.cm,h.cw⟩
def Df (n:Nd) (q:Rq) (i:Nat):Nd:=if 30 < (qE n.reqs i q).length then eY (pz n ((qE n.reqs i q).headD default).no) ((qE n.reqs i q).drop 1) else eY n (qE n.reqs i q)
theorem FY (n:Nd) (q:Rq):Df n q (eu n.reqs q.no)=rM n q:=by
 unfold Df rM;rw [show qE n.reqs (eu n.reqs q.no) q=wI n.reqs q from rfl,List.drop_one]
theorem aef (q:Rq) (i:Nat) (hi:i<=n.reqs.length) (hr:n.reqs.length<=30) (h:WK w0 w wb n A G c v L):
 Calls prog 213 #[.pointer (some ⟨wb,0,none⟩),.agg (fH q.no q.k q.n q.s),.int .i64 i] w λe w'=>e= .returned (.tuple #[])/\∃A' G' c',WK w0 w' wb (Df n q i) A' G' c' v L:=by
 have HW:=Hq h;have HW1:=Hq (h.step (ay w (.cells (fH q.no q.k q.n q.s) 95)));have yg:=Hq (aGg w (.cells (fH q.no q.k q.n q.s) 95));clear h;have hlen:=Qm n.reqs i q hi;obtain⟨c0,c1,c2,c3,c4,c5,c6,c7,c8,c9⟩:=jW HW1.blk;obtain⟨p0,p1,p2,p3⟩:=iO yg;have hwl:=aA HW.blk;have hne:wb≠w.heap.size:=Aaa
 go_in
 go_upto_region 1 with fail;have y8:=aGj c8;have z0:=aGj p0;have z1:=aGj p1;have z2:=aGj p2;have z3:=aGj p3;clear c0 c1 c2 c3 c4 c5 c6 c7 c8 c9 p0 p1 p2 p3;refine mX Aab ?_;show wV _ _ _ _ 14 (Array.replicate 14 false) _ _
 open ar8 in exact akP
theorem Xo {w0 w x:World} {wb:Nat} {n:Nd} {A:bV} {G:aR} {c:Nat->Nat} {v:Value} {L:List Mg} (h:WK w0 w wb n A G c v L) {r:List Pu×Bool} {a:Option Addr} {cp g:Nat} (hb:aI w x) (hg:w.heap.size<=g) (hp:xP x a g r.1):
 Calls prog 209 #[.pointer (some ⟨wb,0,none⟩),.slice a r.1.length cp,.bool r.2] x λe w'=>e= .returned (.bool r.2)/\∃A' G' c',WK w0 w' wb (if r.2=true then setPu n r.1 else n) A' G' c' v L/\(∀k o,k≠wb->x.heap[k]?=some o->w'.heap[k]?=some o)/\∀k,k < w.heap.size->c' k=c k:=by
 obtain⟨l,b⟩:=r;cases b with
 |false=>
  refine(CJ wb a l.length cp x).mono ?_;rintro e w' ⟨rfl,rfl⟩;exact⟨rfl,A,G,c,h.step hb,λ_ _ _ h=>h,λ_ _=>rfl⟩
 |true=>
  refine(zi wb n A v a l.length cp x (h.step hb).blk).mono ?_;rintro e w' ⟨rfl,rfl⟩;exact⟨rfl,_,_,_,h.setPu hb hp (λy hy=>by rw [(dQ hy).1];exact hg),λk o hk ho=>by rw [aGx _ _ _ _ hk];exact ho,λk hk=>fE hk⟩
theorem aBp {w:World} {g:Nat} {a b d e u:Value} {t:TypeId} (h:w.heap[g]?=some (.cells #[a,b,d,e] t (0,0))):(w.setCell ⟨g,3,none⟩ u).heap[g]?=some (.cells #[a,b,d,u] t (0,0)):=aT h 3 u
theorem R8 (o:gW) (hc:o.no<=n.old) (h:WK w0 w wb n A G c v L):Calls prog 176 #[.pointer (some ⟨wb,0,none⟩),jY o] w λe w'=>e= .returned (.int .i64 (fQ n o.no o.k o.n).2)/\∃A' G' c',WK w0 w' wb (fQ n o.no o.k o.n).1 A' G' c' v L:=by
 have hR:fQ n o.no o.k o.n=(n,2):=aGC hc;rw [hR];have hd:decide (o.no<=n.old)=true:=aGk hc;clear hR;open aCA in exact Tq
theorem ZT (o:gW) (E:Nat->Addr) (hz:eG n 1048576) (hok:iC n=true) (hk:o.k.size<=1048576) (h0:0<=o.no) (h1:o.no<=1000000000) (hc:¬o.no<=n.old) (hf:oH n.reqs o.no=false) (h:WK w0 w wb n A G c v L) (he:iK w0 E):Calls prog 176 #[.pointer (some ⟨wb,0,none⟩),jY o] w λe w'=>e= .returned (.int .i64 (fQ n o.no o.k o.n).2)/\∃A' G' c',WK w0 w' wb (fQ n o.no o.k o.n).1 A' G' c' v L:=by
 have hR:fQ n o.no o.k o.n=(rM (setPu n (dK n.pu o.k 0 (-1) 1 o.n).1) ⟨o.no,o.k,o.n,if (dK n.pu o.k 0 (-1) 1 o.n).2=true then 0 else 1⟩,if (dK n.pu o.k 0 (-1) 1 o.n).2=true then 0 else 1):=by
  unfold fQ;rw [aGr hc,aGr Abi]
 have HAD:=Hq hR;generalize fQ n o.no o.k o.n=RES at *;have hd:decide (o.no<=n.old)=false:=aGi hc;have vS:=Hq (λw1 c1 (hw:WK w0 w1 wb n A G c1 v L)=>Og w0 w1 wb n A G c1 v L o.no hok h0 h1 hw);rw [hf] at vS;have hlen:=(jk hok).2.1;have hil:=xI n.reqs o.no;have HRL:=Hq (show(dK n.pu o.k 0 (-1) 1 o.n).2=false->(dK n.pu o.k 0 (-1) 1 o.n).1=n.pu from JX);have HKI:=Hq (fun(l:List Pu) s=>FY (setPu n l) ⟨o.no,o.k,o.n,s⟩);have HKN:=Hq (λs=>FY n ⟨o.no,o.k,o.n,s⟩);dsimp only[setPu] at HKI;dsimp only at HKN;have OU:=Hq (λw1 c1 (hw:WK w0 w1 wb n A G c1 v L)=>YH A.p A.cp n.pu o.k o.n E w1 hz.p hz.pk hk hw.no.p.at (he.below hw.keep));unfold kH at OU;generalize dK n.pu o.k 0 (-1) 1 o.n=r at *;generalize eu n.reqs o.no=i at *;clear hR h0 h1 hok hf he hz;open aCz in exact Tq
theorem aDz (no:Int) (k k':ByteArray) (n n' s s':Int) (W:World):(binOp .eql 95 (.agg (fH no k n s)) (.agg (fH no k' n' s'))).run prog W= .ok (.bool ((k.toList == k'.toList)&&decide (n=n')&&decide (s=s'))) W:=by
 by_cases h1:k.toList == k'.toList<;>by_cases h2:n=n'<;>by_cases h3:s=s'<;>simp[go_sem,h1,h2,h3]
theorem R7 (o:gW) (hok:iC n=true) (hk:o.k.size<=1048576) (h0:0<=o.no) (h1:o.no<=1000000000) (hc:¬o.no<=n.old) (hf:oH n.reqs o.no=true) (h:WK w0 w wb n A G c v L):Calls prog 176 #[.pointer (some ⟨wb,0,none⟩),jY o] w λe w'=>e= .returned (.int .i64 (fQ n o.no o.k o.n).2)/\∃A' G' c',WK w0 w' wb (fQ n o.no o.k o.n).1 A' G' c' v L:=by
 open atQ in exact aaJ
theorem agf (w0 w:World) (wb:Nat) (n:Nd) (A:bV) (G:aR) (c:Nat->Nat) (v:Value) (L:List Mg) (o:gW) (E:Nat->Addr) (hz:eG n 1048576) (hok:iC n=true) (hk:o.k.size<=1048576) (h0:0<=o.no) (h1:o.no<=1000000000) (h:WK w0 w wb n A G c v L) (he:iK w0 E):Calls prog 176 #[.pointer (some ⟨wb,0,none⟩),jY o] w λe w'=>e= .returned (.int .i64 (fQ n o.no o.k o.n).2)/\∃A' G' c',WK w0 w' wb (fQ n o.no o.k o.n).1 A' G' c' v L:=by
 by_cases hc:o.no<=n.old
 .exact R8 w0 w wb n A G c v L o hc h
 cases hf:oH n.reqs o.no with
 |false=>exact ZT w0 w wb n A G c v L o E hz hok hk h0 h1 hc hf h he
 |true=>exact R7 w0 w wb n A G c v L o hok hk h0 h1 hc hf h
end Go.Proofs.YtohmklmkjmlpjaaGreatDoor
