/- Parts. -/
import Derived.Test.YtbolgdleijjgfaaGreatDoorRf36
namespace Go.Proofs.YtbolgdleijjgfaaGreatDoor
open Go.Proofs.Tryz
set_option maxHeartbeats 8000000
set_option maxRecDepth 100000
open Go.RowKit
open Mth
variable (w0 w:World) (wb:Nat) (n:Nd) (A:bq) (G:aN) (c:Nat->Nat) (v:Value) (L:List Mg)
def Bq (R:List Value) (i:Nat) (q:Rq):List Value:=R.take (i*4)++aL q++R.drop (i*4+4)
def Jh (R:List Value) (l:List Rq) (i:Nat) (q:Rq):List Value:=(Bq R i q).take ((i+1)*4)++GR.flat aL (l.drop i)++(Bq R i q).drop ((i+1)*4+(l.length - i)*4)
theorem QW (R:List Value) (i:Nat) (q:Rq) (h:i*4+4<=R.length):(Bq R i q).length=R.length:=by
 unfold Bq;rw [aEW,aEW,aFj,aFA];show _+4+_=_
 omega
theorem adl (R:List Value) (l:List Rq) (i:Nat) (q:Rq) (hi:i < l.length) (h:(l.length+1)*4<=R.length):(Jh R l i q).length=R.length:=by
 have h1:=QW R i q Aaa;unfold Jh;rw [aEW,aEW,iq,aFj,aFA,aFA,h1];omega
theorem Zn (R:List Value) (l:List Rq) (i:Nat) (q:Rq) (hi:i < l.length) (_h:(l.length+1)*4<=R.length) (ht:R.take (i*4)=GR.flat aL (l.take i)):(Jh R l i q).take ((l.length+1)*4)=GR.flat aL (l.take i++q::l.drop i):=by
 have ht2:(GR.flat aL (l.take i)).length=i*4:=by rw [iq,aFj,aFZ Aaa]
 have hd:(GR.flat aL (l.drop i)).length=(l.length - i)*4:=Abw
 have e1:(Bq R i q).take ((i+1)*4)=GR.flat aL (l.take i)++aL q:=by
  unfold Bq;rw [ht];have:(i+1)*4=(GR.flat aL (l.take i)++aL q).length:=by rw [aEW,ht2];show _=_+4;omega
  rw [this,aGI]
 unfold Jh;rw [e1,GR.flat_append,GR.flat_cons,<-aFx];rw [show(l.length+1)*4=(GR.flat aL (l.take i)++aL q++GR.flat aL (l.drop i)).length by rw [aEW,aEW,hd,ht2];show _=_+4+_;omega,aGI]
theorem Qj (g cap i:Nat) (l:List Rq) (q:Rq) (vb:Nat) (w:World) (cur:Array Value) (hl:l.length<=1000) (hi:i < l.length) (hnc:l.length<=cap) (hroom:cap < l.length+1) (hblk:w.heap[g]?=some (.cells cur 148 (0,0))) (htake:cur.toList.take (l.length*4)=GR.flat aL l) (hv:w.heap[vb]?=some (.cells (gY q.no q.k q.n q.s) 148 (0,0))):
 Calls prog 242 #[.slice (some ⟨g,0,none⟩) l.length cap,.int .i64 i,.slice (some ⟨vb,0,none⟩) 1 1] w λe w'=>
  ∃G cur',e= .returned (.slice (some ⟨w.heap.size,0,none⟩) (l.length+1) G)/\l.length+1<=G/\G<=maxLen/\w'.heap[w.heap.size]?=some (.cells cur' 148 (0,0))/\cur'.size=G*4/\cur'.toList.take ((l.length+1)*4)=GR.flat aL (l.take i++q::l.drop i)/\w.grownBy w' none:=by
 obtain⟨i0,hi0,hz0,hz1,hz2⟩:=aFt Ul;have hgw:=ay hblk;have hvw:=ay hv;have hdl:(GR.flat aL (l.drop i)).length=(l.length - i)*4:=Abw
 have htl:(GR.flat aL (l.take i)).length=i*4:=by rw [iq,aFj,aFZ Aaa]
 have hcell:∀(W:World),W.heap[g]?=w.heap[g]?->∀j v,(GR.flat aL l)[j]?=some v->W.cell? ⟨g,j,none⟩=some v:=λW hW j v hj=>by
  have h2:W.cell? ⟨g,j,none⟩=cur[j]?:=aE1 W g j cur 148 (0,0) (hW.trans hblk)
  rw [<-htake,List.getElem?_take] at hj
  split at hj
  .rw [h2,<-Array.getElem?_toList];exact hj
  .cases hj
 have hold:(Builtin.firstCells i0.size i (.slice (some ⟨g,0,none⟩) i cap)).run prog w.drew= .ok (GR.flat aL (l.take i)).toArray w.drew:=by
  rw [hz1]
  exact run_firstCells_some w.drew 4 i ⟨g,0,none⟩ i cap _ htl (λj v hj=>by
   rw [aGN,aFE]
   refine hcell w.drew rfl j v ?_
   rw [<-(tC l i Aaa).1,List.getElem?_take] at hj
   split at hj
   .exact hj
   .cases hj)
 have hkk:(l.length:Int)+1 - (i:Int)=((l.length+1 - i:Nat):Int):=Aaa
 have hik:i+(l.length+1 - i)=l.length+1:=Aaa
 obtain⟨G,hG⟩:∃G,G=grownCap w (l.length+1) cap 148:=⟨_,rfl⟩;obtain⟨R,hR⟩:∃R:Array Value,R=(GR.flat aL (l.take i)).toArray++Builtin.zeroCells (Value.cells (.agg (gY 0 ByteArray.empty 0 0))) (l.length+1 - i)++Builtin.zeroCells (Value.cells (.agg (gY 0 ByteArray.empty 0 0))) (G - (l.length+1)):=⟨_,rfl⟩
 have hrz:∀ty,(Builtin.append_ #[37,3] ty #[.slice (some ⟨g,0,none⟩) i cap,.int .i64 ((l.length:Int)+1 - (i:Int))]).run prog w= .ok (.slice (some ⟨w.heap.size,0,none⟩) (l.length+1) G) (w.drew.alloc (.cells R 148)):=λty=>by
  have h:=Lib.run_append_grow_zeros w 37 3 ty 148 i0 _ .i64 .i64 underlying37 underlying3 hi0 hz0 (some ⟨g,0,none⟩) i cap _ hold (l.length+1 - i) Aaa Aaa Aaa Aaa Abc (by rw [hz2,hik];exact growslice_fits hroom (by omega))
  rw [hik,<-hG,<-hR] at h
  rw [hkk]
  exact h
 have hGn:l.length+1<=G:=by rw [hG];exact grownCap_ge w _ _ _
 have hGm:G<=maxLen:=by rw [hG];exact grownCap_le_maxLen w (l.length+1) cap 148 Aaj
 have hRs:R.size=G*4:=by
  rw [hR];simp only[Array.size_append,aFM,size_zeroCells,htl];show i*4+(l.length+1 - i)*4+(G - (l.length+1))*4=_
  omega
 have hRl:R.toList.length=G*4:=by rw [show R.toList.length=R.size from aFB,hRs]
 have hRt:R.toList.take (i*4)=GR.flat aL (l.take i):=by
  rw [hR];simp only[aGD,aFx];rw [<-htl,aGI]
 clear hR hG hold hkk hik
 have hA:∀W:World,W.heap=(w.drew.alloc (.cells R 148)).heap->∀ty dl dc,dl=l.length+1 - i->(Builtin.copy_ #[37,37] ty #[.slice (some ⟨w.heap.size,i*4,none⟩) dl dc,.slice (some ⟨vb,0,none⟩) 1 1]).run prog W= .ok (goInt 1) (W.setRow w.heap.size (Bq R.toList i q).toArray):=λW hW ty dl dc e1=>by
  subst e1
  have hb:W.heap[w.heap.size]?=some (.cells R 148 (0,0)):=by rw [hW];exact aEP w.drew _
  have hvb:W.heap[vb]?=w.heap[vb]?:=by rw [hW];exact aE4 w.drew _ vb hvw
  have h:=og (P:=prog) W 37 37 ty 148 4 w.heap.size (i*4) (l.length+1 - i) dc ⟨vb,0,none⟩ 1 1 R 148 (aL q) underlying37 Np hb (by show 4=_;simp only[Nat.min_def];split<;>omega)
   (λj v hj=>by
    rw [aFw (w:=w) (a:=(⟨vb,0,none⟩:Addr).add j) (by rw [aGN];exact hvb)]
    exact aFF hv j v hj)
   (by show i*4+4<=_;omega) (xE q)
  rw [show Nat.min 1 (l.length+1 - i)=1 by simp only[Nat.min_def];split<;>omega] at h
  exact h
 have hBb:∀W:World,W.heap=((w.drew.alloc (.cells R 148)).setRow w.heap.size (Bq R.toList i q).toArray).heap->W.heap[w.heap.size]?=some (.cells (Bq R.toList i q).toArray 148 (0,0))/\W.heap[g]?=w.heap[g]?:=λW hW=>by
  rw [hW]
  exact⟨setRow_heap _ w.heap.size R _ 148 _ (aEP w.drew _),(setRow_other _ w.heap.size g _ Aaa).trans (aE4 w.drew _ g hgw)⟩
 have hB:∀W:World,W.heap=((w.drew.alloc (.cells R 148)).setRow w.heap.size (Bq R.toList i q).toArray).heap->∀ty dl sl dc sc,dl=l.length - i->sl=l.length - i->(Builtin.copy_ #[37,37] ty #[.slice (some ⟨w.heap.size,(i+1)*4,none⟩) dl dc,.slice (some ⟨g,i*4,none⟩) sl sc]).run prog W= .ok (goInt ((l.length - i:Nat):Int)) (W.setRow w.heap.size (Jh R.toList l i q).toArray):=λW hW ty dl sl dc sc e1 e2=>by
  subst e1 e2
  obtain⟨hb1,hb2⟩:=hBb W hW
  have h:=og (P:=prog) W 37 37 ty 148 4 w.heap.size ((i+1)*4) (l.length - i) dc ⟨g,i*4,none⟩ (l.length - i) sc (Bq R.toList i q).toArray 148 (GR.flat aL (l.drop i)) underlying37 Np hb1 (by rw [hdl];simp only[Nat.min_def];split<;>omega)
   (λj v hj=>by
    rw [aGN]
    exact hcell W hb2 _ v (by rw [<-List.getElem?_drop,(tC l i Aaa).2];exact hj))
   (by rw [hdl,aFM,QW _ _ _ Aaa];omega) (λv hv=>nN _ v hv)
  rw [hdl,show Nat.min (l.length - i) (l.length - i)=l.length - i by simp only[Nat.min_def];split<;>omega] at h
  exact h
 have zN:=Hq (show∀W:World,W.heap=((w.drew.alloc (.cells R 148)).setRow w.heap.size (Bq R.toList i q).toArray).heap->W.os=w.os->W.tape=w.tape->W.output=w.output->
  (W.setRow w.heap.size (Jh R.toList l i q).toArray).heap[w.heap.size]?=some (.cells (Jh R.toList l i q).toArray 148 (0,0))/\w.grownBy (W.setRow w.heap.size (Jh R.toList l i q).toArray) none from λW hW e1 e2 e3=>by
  obtain⟨hb1,hb2⟩:=hBb W hW
  refine⟨setRow_heap _ w.heap.size _ _ 148 _ hb1,⟨e1,e2,e3,?_,λk hk _=>?_⟩⟩
  .have:=congrArg Array.size hW;simp at this ⊢;omega
  .refine(setRow_other _ w.heap.size k _ Aaa).trans ?_;rw [hW]
   exact(setRow_other _ w.heap.size k _ Aaa).trans (aE4 w.drew _ k hk))
 have wJ:=Hq (show(Jh R.toList l i q).toArray.size=G*4 by rw [aFM,adl _ _ _ _ hi Aaa,hRl]);have OM:=Hq (show(Jh R.toList l i q).toArray.toList.take ((l.length+1)*4)=_ from Zn R.toList l i q hi Aaa hRt);open atv in exact agK
def qP (l:List Rq) (i:Nat) (q:Rq):List Rq:=l.take i++q::l.drop i
theorem Qe (l:List Rq) (i:Nat) (q:Rq) (hi:i<=l.length):(qP l i q).length=l.length+1:=by
 unfold qP;rw [aEW,aGe,aFj,aFA];omega
theorem ak3 (B:Nat) (a:Option Addr) (cap i:Nat) (l:List Rq) (q:Rq) (vb:Nat) (w:World) (hl:l.length<=1000) (hi:i<=l.length) (hB:B<=w.heap.size) (ho:w.ownsRow B 148 4 (.slice a l.length cap) l.length (GR.flat aL l)) (hv:w.heap[vb]?=some (.cells (gY q.no q.k q.n q.s) 148 (0,0))) (hne:∀x,(Value.slice a l.length cap).ownBlock=some x->vb≠x):
 Calls prog 242 #[.slice a l.length cap,.int .i64 i,.slice (some ⟨vb,0,none⟩) 1 1] w (Lh w B (.slice a l.length cap) (qP l i q)):=by
 have hlen:=Qe l i q hi;by_cases he:i=l.length
 .subst he;have e:qP l l.length q=l++[q]:=by unfold qP;rw [aFh,List.drop_length]
  rw [e];exact Um B a cap l q vb w hl hB ho hv
 have hi2:i < l.length:=Aaa
 have hfl:(GR.flat aL (qP l i q)).length=(l.length+1)*4:=by rw [iq,hlen]
 open auv in exact aaO
abbrev zQ:List Value:=[.int .i64 0,.string ⟨#[]⟩,.int .i64 0,.int .i64 0]
theorem Ji (w:World) (ty:TypeId) (g o c:Nat) (cur:Array Value) (hg:w.heap[g]?=some (.cells cur 148 (0,0))) (hfit:o+4<=cur.size):
 (Builtin.clear_ #[37] ty #[.slice (some ⟨g,o,none⟩) 1 c]).run prog w= .ok (.tuple #[]) (w.setRow g (cur.toList.take o++zQ++cur.toList.drop (o+4)).toArray):=by
 have hst:=run_storeCells_at prog g o 148 zQ 0 cur w hg (by simpa using hfit) (by intro u hu;simp only[zQ,aFd,aFW,or_false] at hu;rcases hu with rfl|rfl|rfl|rfl<;>rfl);have hzc:(Builtin.zeroCells (Value.cells (.agg (gY 0 ⟨#[]⟩ 0 0))) 1).toList=zQ:=Aab
 have h1:(Builtin.clear_ #[37] ty #[.slice (some ⟨g,o,none⟩) 1 c]).run prog w=((storeCells ⟨g,o,none⟩ zQ).run prog w).andThen λ_ w'=> .ok (.tuple #[]) w':=by
  simp[Builtin.clear_,run_underlying underlying37];rw [hzc]
 rw [h1,hst];rfl
def Bu (cur:List Value) (l:List Rq):List Value:=cur.take (0*4)++GR.flat aL (l.drop 1)++cur.drop (0*4+(GR.flat aL (l.drop 1)).length)
def Nl (cur:List Value) (l:List Rq):List Value:=(Bu cur l).take ((l.length - 1)*4)++zQ++(Bu cur l).drop ((l.length - 1)*4+4)
theorem Gw (cur:List Value) (l:List Rq) (h2:2<=l.length) (hc:l.length*4<=cur.length):(Bu cur l).length=cur.length:=by
 unfold Bu;exact aiG
theorem adn (cur:List Value) (l:List Rq) (h2:2<=l.length) (hc:l.length*4<=cur.length):(Nl cur l).length=cur.length:=by
 have h1:=Gw cur l h2 hc;unfold Nl;exact aiN
theorem Zo (cur:List Value) (l:List Rq) (h2:2<=l.length) (hc:l.length*4<=cur.length):(Nl cur l).take ((l.length - 1)*4)=GR.flat aL (l.drop 1):=by
 have h1:=Gw cur l h2 hc;have hd:(GR.flat aL (l.drop 1)).length=(l.length - 1)*4:=Abw
 unfold Nl;rw [aFx,List.take_append_of_le_length (by rw [aFj,h1];omega),aGH,Nat.min_self];unfold Bu;rw [Nat.zero_mul,aGG,aF5,<-hd,aGI]
theorem Yg (g cap:Nat) (l:List Rq) (w:World) (cur:Array Value) (h2:2<=l.length) (hl:l.length<=1000) (hnc:l.length<=cap) (hcm:cap<=maxLen) (hblk:w.heap[g]?=some (.cells cur 148 (0,0))) (hcs:cur.size=cap*4) (htake:cur.toList.take (l.length*4)=GR.flat aL l):
 Calls prog 243 #[.slice (some ⟨g,0,none⟩) l.length cap,.int .i64 0,.int .i64 1] w λe w'=>
  e= .returned (.slice (some ⟨g,0,none⟩) (l.length - 1) cap)/\w'.heap[g]?=some (.cells (Nl cur.toList l).toArray 148 (0,0))/\w.grownBy w' (some g):=by
 obtain⟨i0,hi0,hz0,hz1,hz2⟩:=aFt Ul;have abT:cur.toList.length=cap*4:=Adf
 have hdl:(GR.flat aL (l.drop 1)).length=(l.length - 1)*4:=Abw
 have hap:∀W:World,W.heap[g]?=some (.cells cur 148 (0,0))->∀ty dc,(Builtin.append_ #[37,37] ty #[.slice (some ⟨g,0,none⟩) 0 cap,.slice (some ⟨g,4,none⟩) (l.length - 1) dc]).run prog W= .ok (.slice (some ⟨g,0,none⟩) (l.length - 1) cap) (W.setRow g (Bu cur.toList l).toArray):=λW hW ty dc=>by
  have h:=run_append_room (P:=prog) W 37 ty 148 i0 underlying37 hi0 g 0 cap cur hW ⟨g,4,none⟩ (l.length - 1) dc (GR.flat aL (l.drop 1)) (by rw [hz1,hdl])
   (λj v hj=>by
    rw [aGN]
    have h1:(GR.flat aL l)[4+j]?=some v:=by
     have:=(tC l 1 Aaa).2;rw [<-List.getElem?_drop];rw [show(4:Nat)=1*4 from rfl,this];exact hj
    rw [<-htake,List.getElem?_take] at h1
    split at h1
    .have h2:W.cell? ⟨g,4+j,none⟩=cur[4+j]?:=aE1 W g (4+j) cur 148 (0,0) hW;rw [h2,<-Array.getElem?_toList];exact h1
    .cases h1)
   (λv hv=>nN _ v hv) Aaa (by rw [hz1,hdl,hcs];omega)
  rw [hz1,aFE] at h
  exact h
 have hcl:∀W:World,W.heap[g]?=some (.cells cur 148 (0,0))->∀ty c,(Builtin.clear_ #[37] ty #[.slice (some ⟨g,(l.length - 1)*4,none⟩) 1 c]).run prog (W.setRow g (Bu cur.toList l).toArray)= .ok (.tuple #[]) ((W.setRow g (Bu cur.toList l).toArray).setRow g (Nl cur.toList l).toArray):=λW hW ty c=>by
  have hb:(W.setRow g (Bu cur.toList l).toArray).heap[g]?=some (.cells (Bu cur.toList l).toArray 148 (0,0)):=setRow_heap W g cur _ 148 _ hW
  exact Ji _ ty g ((l.length - 1)*4) c (Bu cur.toList l).toArray hb (by rw [aFM,Gw _ _ h2 Aaa,abT];omega)
 have zN:=Hq (show∀W:World,Ge w W->((W.setRow g (Bu cur.toList l).toArray).setRow g (Nl cur.toList l).toArray).heap[g]?=some (.cells (Nl cur.toList l).toArray 148 (0,0))/\w.grownBy ((W.setRow g (Bu cur.toList l).toArray).setRow g (Nl cur.toList l).toArray) (some g) from λW hW=>
  ⟨setRow_heap _ g (Bu cur.toList l).toArray _ 148 _ (setRow_heap W g cur _ 148 _ (aj hblk hW)),⟨hW.os,hW.tape,hW.output,by have:=hW.size;simpa using this,λk hl hk=>((setRow_other _ g k _ (λe=>hk Aap)).trans (setRow_other W g k _ (λe=>hk Aap))).trans (hW.block k hl)⟩⟩)
 have ajp:=Hq hblk;have akx:l.length - (l.length - 1)=1:=Aaa
 have mixed:prog.follows .mixedOrders=true:=Aab
 have hc63:cap<=9223372036854775807:=Aca
 have hb1:(1:Int)<=(l.length:Int):=Aaa
 have hb2:¬(cap=1):=Aaa
 have hb3:¬(l.length=0):=Aaa
 have hnn:(l.length:Int) - 1=((l.length - 1:Nat):Int):=Aaa
 clear hcs hblk htake hcm abT hdl hi0 hz0 hz1 hz2;go_in
 go_wp2_with fail;refine bC 6 Aab ?_;show fV _ _ _ _ _ 8 (Array.replicate 8 false) _ _
 refine tk [0,1,2,3,4,5] ?_;open avv in exact JX
theorem akq (B:Nat) (a:Option Addr) (cap:Nat) (l:List Rq) (w:World) (h2:2<=l.length) (hl:l.length<=1000) (ho:w.ownsRow B 148 4 (.slice a l.length cap) l.length (GR.flat aL l)):
 Calls prog 243 #[.slice a l.length cap,.int .i64 0,.int .i64 1] w (Lh w B (.slice a l.length cap) (l.drop 1)):=by
 have hlen:(l.drop 1).length=l.length - 1:=by rw [aFA]
 open auw in exact aaO
theorem WK.reqPut {w0 w w6:World} {wb:Nat} {n:Nd} {A:bq} {G:aN} {c:Nat->Nat} {v:Value} {L:List Mg} {a6:Option Addr} {c6:Nat} {l:List Rq} (h:WK w0 w wb n A G c v L) (hown:w6.ownsRow w0.heap.size 148 4 (.slice a6 l.length c6) l.length (GR.flat aL l)) (hg:w.grownBy w6 (Value.slice A.r n.reqs.length A.cr).ownBlock) (hv:∀x,(Value.slice a6 l.length c6).ownBlock=some x->(Value.slice A.r n.reqs.length A.cr).ownBlock=some x\/w.heap.size<=x):
 w6.heap[wb]?=some (.cells (Xr n A v) 215 (0,0))/\WK w0 (w6.setCell ⟨wb,8,none⟩ (.slice a6 l.length c6)) wb (eT n l) ⟨A.k,A.p,A.o,A.s,a6,A.ck,A.cp,A.co,A.cs,c6⟩ G (newC w.heap.size 6 c) v L:=by
 have h1:=h.recol (c':=newC w.heap.size 6 c) (λx hx=>fE hx);have hk1:KC (newC w.heap.size 6 c) 6 w w6:=KC.grown hg h1.no.cr;have hblk:=hk1.obj h1.blk (by rw [h1.cw];omega);have hkeep:=hk1.below h1.keep h1.no.lo Aaa h1.keep.size;have hk2:KC (newC w.heap.size 6 c) 8 w6 (w6.setCell ⟨wb,8,none⟩ (.slice a6 l.length c6)):=KC.set h1.cw
 have hcr:∀x,(Value.slice a6 l.length c6).ownBlock=some x->newC w.heap.size 6 c x=6:=λx hx=>by
  rcases hv x hx with hx'|hx'
  .exact h1.no.cr x hx'
  .exact aY hx'
 have hno:=h1.no;refine⟨hblk,hk2.below hkeep hno.lo Aaa hkeep.size,?_,⟨?_,?_,?_,?_,?_,hno.lo,hno.ck,hno.cp,hno.co,hno.c4,hno.ci,hcr,hno.ni⟩,?_,h1.cm,h1.cw⟩
 .exact aP hblk 8 (.slice a6 l.length c6)
 .exact hk2.w (hk1.w hno.k hno.ck Aaa) hno.ck Aaa
 .exact hk2.w (hk1.w hno.p hno.cp Aaa) hno.cp Aaa
 .exact hk2.own (hk1.own hno.o hno.co Aaa) hno.co Aaa
 .exact aiJ
 .exact hk2.own hown hcr Aaa
 .exact hk2.own (hk1.own h1.m h1.cm Aaa) h1.cm Aaa
theorem WK.oldPut {w0 w:World} {wb:Nat} {n:Nd} {A:bq} {G:aN} {c:Nat->Nat} {v:Value} {L:List Mg} (h:WK w0 w wb n A G c v L) (y:Int):WK w0 (w.setCell ⟨wb,7,none⟩ (.int .i64 y)) wb (pV n y) A G c v L:=by
 have hk2:KC c 8 w (w.setCell ⟨wb,7,none⟩ (.int .i64 y)):=KC.set h.cw;have hno:=h.no.kc hk2 Aaa;exact⟨hk2.below h.keep h.no.lo Aaa h.keep.size,aP h.blk 7 (.int .i64 y),⟨hno.k,hno.p,hno.o,hno.s,hno.r,hno.lo,hno.ck,hno.cp,hno.co,hno.c4,hno.ci,hno.cr,hno.ni⟩,hk2.own h.m h.cm Aaa,h.cm,h.cw⟩
def Dq (n:Nd) (q:Rq) (i:Nat):Nd:=if 30 < (qP n.reqs i q).length then eT (pV n ((qP n.reqs i q).headD default).no) ((qP n.reqs i q).drop 1) else eT n (qP n.reqs i q)
theorem F7 (n:Nd) (q:Rq):Dq n q (dZ n.reqs q.no)=rW n q:=by
 unfold Dq rW;rw [show qP n.reqs (dZ n.reqs q.no) q=wR n.reqs q from rfl,List.drop_one]
theorem adS (q:Rq) (i:Nat) (hi:i<=n.reqs.length) (hr:n.reqs.length<=30) (h:WK w0 w wb n A G c v L):
 Calls prog 218 #[.pointer (some ⟨wb,0,none⟩),.agg (gY q.no q.k q.n q.s),.int .i64 i] w λe w'=>e= .returned (.tuple #[])/\∃A' G' c',WK w0 w' wb (Dq n q i) A' G' c' v L:=by
 have HW:=Hq h;have HW1:=Hq (h.step (au w (.cells (gY q.no q.k q.n q.s) 148)));have wH:=Hq (aEP w (.cells (gY q.no q.k q.n q.s) 148));clear h;have hlen:=Qe n.reqs i q hi;obtain⟨c0,c1,c2,c3,c4,c5,c6,c7,c8,c9⟩:=jT HW1.blk;obtain⟨p0,p1,p2,p3⟩:=iI wH;have hwl:=ay HW.blk;have hne:wb≠w.heap.size:=Aaa
 go_in
 go_upto_region 1 with fail;have y8:=aEQ c8;have z0:=aEQ p0;have z1:=aEQ p1;have z2:=aEQ p2;have z3:=aEQ p3;clear c0 c1 c2 c3 c4 c5 c6 c7 c8 c9 p0 p1 p2 p3;refine mY Aab ?_;show xB _ _ _ _ 14 (Array.replicate 14 false) _ _
 open aqy in exact aj0
theorem Xi {w0 w x:World} {wb:Nat} {n:Nd} {A:bq} {G:aN} {c:Nat->Nat} {v:Value} {L:List Mg} (h:WK w0 w wb n A G c v L) {r:List Pu×Bool} {a:Option Addr} {cp g:Nat} (hb:aH w x) (hg:w.heap.size<=g) (hp:yg x a g r.1):
 Calls prog 214 #[.pointer (some ⟨wb,0,none⟩),.slice a r.1.length cp,.bool r.2] x λe w'=>e= .returned (.bool r.2)/\∃A' G' c',WK w0 w' wb (if r.2=true then setPu n r.1 else n) A' G' c' v L/\(∀k o,k≠wb->x.heap[k]?=some o->w'.heap[k]?=some o)/\∀k,k < w.heap.size->c' k=c k:=by
 obtain⟨l,b⟩:=r;cases b with
 |false=>
  refine(CU wb a l.length cp x).mono ?_;rintro e w' ⟨rfl,rfl⟩;exact⟨rfl,A,G,c,h.step hb,λ_ _ _ h=>h,λ_ _=>rfl⟩
 |true=>
  refine(zB wb n A v a l.length cp x (h.step hb).blk).mono ?_;rintro e w' ⟨rfl,rfl⟩;exact⟨rfl,_,_,_,h.setPu hb hp (λy hy=>by rw [(dw hy).1];exact hg),λk o hk ho=>by rw [aFe _ _ _ _ hk];exact ho,λk hk=>fE hk⟩
theorem azN {w:World} {g:Nat} {a b d e u:Value} {t:TypeId} (h:w.heap[g]?=some (.cells #[a,b,d,e] t (0,0))):(w.setCell ⟨g,3,none⟩ u).heap[g]?=some (.cells #[a,b,d,u] t (0,0)):=aP h 3 u
theorem RJ (o:gP) (hc:o.no<=n.old) (h:WK w0 w wb n A G c v L):Calls prog 200 #[.pointer (some ⟨wb,0,none⟩),jX o] w λe w'=>e= .returned (.int .i64 (fT n o.no o.k o.n).2)/\∃A' G' c',WK w0 w' wb (fT n o.no o.k o.n).1 A' G' c' v L:=by
 have hR:fT n o.no o.k o.n=(n,2):=aFc hc;rw [hR];have hd:decide (o.no<=n.old)=true:=aET hc;clear hR;open aAX in exact Yk9
theorem ZW (o:gP) (E:Nat->Addr) (hz:eG n 1048576) (hok:iw n=true) (hk:o.k.size<=1048576) (h0:0<=o.no) (h1:o.no<=1000000000) (hc:¬o.no<=n.old) (hf:oU n.reqs o.no=false) (h:WK w0 w wb n A G c v L) (he:iy w0 E):Calls prog 200 #[.pointer (some ⟨wb,0,none⟩),jX o] w λe w'=>e= .returned (.int .i64 (fT n o.no o.k o.n).2)/\∃A' G' c',WK w0 w' wb (fT n o.no o.k o.n).1 A' G' c' v L:=by
 have hR:fT n o.no o.k o.n=(rW (setPu n (dB n.pu o.k 0 (-1) 1 o.n).1) ⟨o.no,o.k,o.n,if (dB n.pu o.k 0 (-1) 1 o.n).2=true then 0 else 1⟩,if (dB n.pu o.k 0 (-1) 1 o.n).2=true then 0 else 1):=by
  unfold fT;rw [aE2 hc,aE2 Abi]
 have HAD:=Hq hR;generalize fT n o.no o.k o.n=RES at *;have hd:decide (o.no<=n.old)=false:=aES hc;have yc:=Hq (λw1 c1 (hw:WK w0 w1 wb n A G c1 v L)=>NY w0 w1 wb n A G c1 v L o.no hok h0 h1 hw);rw [hf] at yc;have hlen:=(iY hok).2.1;have hil:=xS n.reqs o.no;have HRL:=Hq (show(dB n.pu o.k 0 (-1) 1 o.n).2=false->(dB n.pu o.k 0 (-1) 1 o.n).1=n.pu from JZ);have HKI:=Hq (fun(l:List Pu) s=>F7 (setPu n l) ⟨o.no,o.k,o.n,s⟩);have HKN:=Hq (λs=>F7 n ⟨o.no,o.k,o.n,s⟩);dsimp only[setPu] at HKI;dsimp only at HKN;have Sg:=Hq (λw1 c1 (hw:WK w0 w1 wb n A G c1 v L)=>YI A.p A.cp n.pu o.k o.n E w1 hz.p hz.pk hk hw.no.p.at (he.below hw.keep));unfold j6 at Sg;generalize dB n.pu o.k 0 (-1) 1 o.n=r at *;generalize dZ n.reqs o.no=i at *;clear hR h0 h1 hok hf he hz;open aAW in exact Yk9
theorem aB0 (no:Int) (k k':ByteArray) (n n' s s':Int) (W:World):(binOp .eql 148 (.agg (gY no k n s)) (.agg (gY no k' n' s'))).run prog W= .ok (.bool ((k.toList == k'.toList)&&decide (n=n')&&decide (s=s'))) W:=by
 by_cases h1:k.toList == k'.toList<;>by_cases h2:n=n'<;>by_cases h3:s=s'<;>simp[go_sem,h1,h2,h3]
theorem RI (o:gP) (hok:iw n=true) (hk:o.k.size<=1048576) (h0:0<=o.no) (h1:o.no<=1000000000) (hc:¬o.no<=n.old) (hf:oU n.reqs o.no=true) (h:WK w0 w wb n A G c v L):Calls prog 200 #[.pointer (some ⟨wb,0,none⟩),jX o] w λe w'=>e= .returned (.int .i64 (fT n o.no o.k o.n).2)/\∃A' G' c',WK w0 w' wb (fT n o.no o.k o.n).1 A' G' c' v L:=by
 open asB in exact aaC
theorem afU (w0 w:World) (wb:Nat) (n:Nd) (A:bq) (G:aN) (c:Nat->Nat) (v:Value) (L:List Mg) (o:gP) (E:Nat->Addr) (hz:eG n 1048576) (hok:iw n=true) (hk:o.k.size<=1048576) (h0:0<=o.no) (h1:o.no<=1000000000) (h:WK w0 w wb n A G c v L) (he:iy w0 E):Calls prog 200 #[.pointer (some ⟨wb,0,none⟩),jX o] w λe w'=>e= .returned (.int .i64 (fT n o.no o.k o.n).2)/\∃A' G' c',WK w0 w' wb (fT n o.no o.k o.n).1 A' G' c' v L:=by
 by_cases hc:o.no<=n.old
 .exact RJ w0 w wb n A G c v L o hc h
 cases hf:oU n.reqs o.no with
 |false=>exact ZW w0 w wb n A G c v L o E hz hok hk h0 h1 hc hf h he
 |true=>exact RI w0 w wb n A G c v L o hok hk h0 h1 hc hf h
end Go.Proofs.YtbolgdleijjgfaaGreatDoor
