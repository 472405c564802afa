/- Parts. -/
import Derived.Test.YtacgbldlonoaaaaGreatDoorRw33
namespace Go.Proofs.YtacgbldlonoaaaaGreatDoor
open Go.Proofs.Tryz
set_option maxHeartbeats 8000000
set_option maxRecDepth 100000
open Go.RowKit
open Mth
variable (w0 w:World) (wb:Nat) (n:Nd) (A:bC) (G:bJ) (c:Nat->Nat) (v:Value) (L:List Mg) {g cp:Nat} {r:List Pu×Bool} {a:Option Addr}
def Ap (R:List Value) (i:Nat) (q:Rq):List Value:=R.take (i*4)++aN q++R.drop (i*4+4)
def IB (R:List Value) (l:List Rq) (i:Nat) (q:Rq):List Value:=(Ap R i q).take ((i+1)*4)++GR.flat aN (l.drop i)++(Ap R i q).drop ((i+1)*4+(l.length - i)*4)
theorem QB (R:List Value) (i:Nat) (q:Rq) (h:i*4+4<=R.length):(Ap R i q).length=R.length:=by
 unfold Ap;rw [List.length_append,List.length_append,List.length_take,List.length_drop];show _+4+_=_
 omega
theorem acL (R:List Value) (l:List Rq) (i:Nat) (q:Rq) (hi:i < l.length) (h:(l.length+1)*4<=R.length):(IB R l i q).length=R.length:=by
 have h1:=QB R i q Aaa;unfold IB;rw [List.length_append,List.length_append,iC,List.length_take,List.length_drop,List.length_drop,h1];omega
theorem Yi (R:List Value) (l:List Rq) (i:Nat) (q:Rq) (hi:i < l.length) (_h:(l.length+1)*4<=R.length) (ht:R.take (i*4)=GR.flat aN (l.take i)):(IB R l i q).take ((l.length+1)*4)=GR.flat aN (l.take i++q::l.drop i):=by
 have ht2:(GR.flat aN (l.take i)).length=i*4:=by rw [iC,List.length_take,Nat.min_eq_left Aaa]
 have hd:(GR.flat aN (l.drop i)).length=(l.length - i)*4:=Ack
 have e1:(Ap R i q).take ((i+1)*4)=GR.flat aN (l.take i)++aN q:=by
  unfold Ap;rw [ht];have:(i+1)*4=(GR.flat aN (l.take i)++aN q).length:=by rw [List.length_append,ht2];show _=_+4;omega
  rw [this,List.take_left]
 unfold IB;rw [e1,GR.flat_append,GR.flat_cons,<-List.append_assoc];rw [show(l.length+1)*4=(GR.flat aN (l.take i)++aN q++GR.flat aN (l.drop i)).length by rw [List.length_append,List.length_append,hd,ht2];show _=_+4+_;omega,List.take_left]
theorem PZ (g cap i:Nat) (l:List Rq) (q:Rq) (vb:Nat) (w:World) (cur:Array Value) (hl:l.length<=1000) (hi:i < l.length) (hnc:l.length<=cap) (hroom:cap < l.length+1) (hblk:w.heap[g]?=some (.cells cur 97 (0,0))) (htake:cur.toList.take (l.length*4)=GR.flat aN l) (hv:w.heap[vb]?=some (.cells (eG q.no q.k q.n q.s) 97 (0,0))):
 Calls prog 189 #[.slice (some ⟨g,0,none⟩) l.length cap,.int .i64 i,.slice (some ⟨vb,0,none⟩) 1 1] w λe w'=>
  ∃G cur',e= .returned (.slice (some ⟨w.heap.size,0,none⟩) (l.length+1) G)/\l.length+1<=G/\G<=maxLen/\w'.heap[w.heap.size]?=some (.cells cur' 97 (0,0))/\cur'.size=G*4/\cur'.toList.take ((l.length+1)*4)=GR.flat aN (l.take i++q::l.drop i)/\w.grownBy w' none:=by
 obtain⟨i0,hi0,hz0,hz1,hz2⟩:=info_parts TI;have hgw:=aA hblk;have hvw:=aA hv;have hdl:(GR.flat aN (l.drop i)).length=(l.length - i)*4:=Ack
 have htl:(GR.flat aN (l.take i)).length=i*4:=by rw [iC,List.length_take,Nat.min_eq_left Aaa]
 have hcell:∀(W:World),W.heap[g]?=w.heap[g]?->∀j v,(GR.flat aN l)[j]?=some v->W.cell? ⟨g,j,none⟩=some v:=λW hW j v hj=>by
  have h2:W.cell? ⟨g,j,none⟩=cur[j]?:=cell_of_row W g j cur 97 (0,0) (hW.trans hblk)
  rw [<-htake,List.getElem?_take] at hj
  split at hj
  .rw [h2,<-Array.getElem?_toList];exact hj
  .cases hj
 have hold:(Builtin.firstCells i0.size i (.slice (some ⟨g,0,none⟩) i cap)).run prog w.drew= .ok (GR.flat aN (l.take i)).toArray w.drew:=by
  rw [hz1]
  exact run_firstCells_some w.drew 4 i ⟨g,0,none⟩ i cap _ htl (λj v hj=>by
   rw [Addr.add_lit,Nat.zero_add]
   refine hcell w.drew rfl j v ?_
   rw [<-(sJ l i Aaa).1,List.getElem?_take] at hj
   split at hj
   .exact hj
   .cases hj)
 have hkk:(l.length:Int)+1 - (i:Int)=((l.length+1 - i:Nat):Int):=Aaa
 have hik:i+(l.length+1 - i)=l.length+1:=Aaa
 obtain⟨G,hG⟩:∃G,G=grownCap w (l.length+1) cap 97:=⟨_,rfl⟩;obtain⟨R,hR⟩:∃R:Array Value,R=(GR.flat aN (l.take i)).toArray++Builtin.zeroCells (Value.cells (.agg (eG 0 ByteArray.empty 0 0))) (l.length+1 - i)++Builtin.zeroCells (Value.cells (.agg (eG 0 ByteArray.empty 0 0))) (G - (l.length+1)):=⟨_,rfl⟩
 have hrz:∀ty,(Builtin.append_ #[28,3] ty #[.slice (some ⟨g,0,none⟩) i cap,.int .i64 ((l.length:Int)+1 - (i:Int))]).run prog w= .ok (.slice (some ⟨w.heap.size,0,none⟩) (l.length+1) G) (w.drew.alloc (.cells R 97)):=λty=>by
  have h:=Lib.run_append_grow_zeros w 28 3 ty 97 i0 _ .i64 .i64 underlying28 underlying3 hi0 hz0 (some ⟨g,0,none⟩) i cap _ hold (l.length+1 - i) Aaa Aaa Aaa Aaa (by rw [hz2];omega) (by rw [hz2,hik];exact growslice_fits hroom (by omega))
  rw [hik,<-hG,<-hR] at h
  rw [hkk]
  exact h
 have hGn:l.length+1<=G:=by rw [hG];exact grownCap_ge w _ _ _
 have hGm:G<=maxLen:=by rw [hG];exact grownCap_le_maxLen w (l.length+1) cap 97 Aah
 have hRs:R.size=G*4:=by
  rw [hR];simp only[Array.size_append,List.size_toArray,size_zeroCells,htl];show i*4+(l.length+1 - i)*4+(G - (l.length+1))*4=_
  omega
 have hRl:R.toList.length=G*4:=by rw [show R.toList.length=R.size from Array.length_toList,hRs]
 have hRt:R.toList.take (i*4)=GR.flat aN (l.take i):=by
  rw [hR];simp only[Array.toList_append,List.append_assoc];rw [<-htl,List.take_left]
 clear hR hG hold hkk hik
 have hA:∀W:World,W.heap=(w.drew.alloc (.cells R 97)).heap->∀ty dl dc,dl=l.length+1 - i->(Builtin.copy_ #[28,28] ty #[.slice (some ⟨w.heap.size,i*4,none⟩) dl dc,.slice (some ⟨vb,0,none⟩) 1 1]).run prog W= .ok (goInt 1) (W.setRow w.heap.size (Ap R.toList i q).toArray):=λW hW ty dl dc e1=>by
  subst e1
  have hb:W.heap[w.heap.size]?=some (.cells R 97 (0,0)):=by rw [hW];exact heap_alloc_new w.drew _
  have hvb:W.heap[vb]?=w.heap[vb]?:=by rw [hW];exact Below.heap_alloc w.drew _ vb hvw
  have h:=oF (P:=prog) W 28 28 ty 97 4 w.heap.size (i*4) (l.length+1 - i) dc ⟨vb,0,none⟩ 1 1 R 97 (aN q) underlying28 MO hb (by show 4=_;simp only[Nat.min_def];split<;>omega)
   (λj v hj=>by
    rw [World.cell?_of_block (w:=w) (a:=(⟨vb,0,none⟩:Addr).add j) (by rw [Addr.add_lit];exact hvb)]
    exact World.news_of_block hv j v hj)
   (by show i*4+4<=_;omega) (ql q)
  rw [show Nat.min 1 (l.length+1 - i)=1 by simp only[Nat.min_def];split<;>omega] at h
  exact h
 have hBb:∀W:World,W.heap=((w.drew.alloc (.cells R 97)).setRow w.heap.size (Ap R.toList i q).toArray).heap->W.heap[w.heap.size]?=some (.cells (Ap R.toList i q).toArray 97 (0,0))/\W.heap[g]?=w.heap[g]?:=λW hW=>by
  rw [hW]
  exact⟨setRow_heap _ w.heap.size R _ 97 _ (heap_alloc_new w.drew _),(setRow_other _ w.heap.size g _ Aaa).trans (Below.heap_alloc w.drew _ g hgw)⟩
 have hB:∀W:World,W.heap=((w.drew.alloc (.cells R 97)).setRow w.heap.size (Ap R.toList i q).toArray).heap->∀ty dl sl dc sc,dl=l.length - i->sl=l.length - i->(Builtin.copy_ #[28,28] ty #[.slice (some ⟨w.heap.size,(i+1)*4,none⟩) dl dc,.slice (some ⟨g,i*4,none⟩) sl sc]).run prog W= .ok (goInt ((l.length - i:Nat):Int)) (W.setRow w.heap.size (IB R.toList l i q).toArray):=λW hW ty dl sl dc sc e1 e2=>by
  subst e1 e2
  obtain⟨hb1,hb2⟩:=hBb W hW
  have h:=oF (P:=prog) W 28 28 ty 97 4 w.heap.size ((i+1)*4) (l.length - i) dc ⟨g,i*4,none⟩ (l.length - i) sc (Ap R.toList i q).toArray 97 (GR.flat aN (l.drop i)) underlying28 MO hb1 (by rw [hdl];simp only[Nat.min_def];split<;>omega)
   (λj v hj=>by
    rw [Addr.add_lit]
    exact hcell W hb2 _ v (by rw [<-List.getElem?_drop,(sJ l i Aaa).2];exact hj))
   (by rw [hdl,List.size_toArray,QB _ _ _ Aaa];omega) (λv hv=>iP _ v hv)
  rw [hdl,show Nat.min (l.length - i) (l.length - i)=l.length - i by simp only[Nat.min_def];split<;>omega] at h
  exact h
 have Dv:=Hq (show∀W:World,W.heap=((w.drew.alloc (.cells R 97)).setRow w.heap.size (Ap R.toList i q).toArray).heap->W.os=w.os->W.tape=w.tape->W.output=w.output->
  (W.setRow w.heap.size (IB R.toList l i q).toArray).heap[w.heap.size]?=some (.cells (IB R.toList l i q).toArray 97 (0,0))/\w.grownBy (W.setRow w.heap.size (IB R.toList l i q).toArray) none from λW hW e1 e2 e3=>by
  obtain⟨hb1,hb2⟩:=hBb W hW
  refine⟨setRow_heap _ w.heap.size _ _ 97 _ hb1,⟨e1,e2,e3,?_,λk hk _=>?_⟩⟩
  .have:=congrArg Array.size hW;simp at this ⊢;omega
  .refine(setRow_other _ w.heap.size k _ Aaa).trans ?_;rw [hW]
   exact(setRow_other _ w.heap.size k _ Aaa).trans (Below.heap_alloc w.drew _ k hk))
 have JE:=Hq (show(IB R.toList l i q).toArray.size=G*4 by rw [List.size_toArray,acL _ _ _ _ hi Aaa,hRl]);have UW:=Hq (show(IB R.toList l i q).toArray.toList.take ((l.length+1)*4)=_ from Yi R.toList l i q hi Aaa hRt);open as6 in exact af9
def qH (l:List Rq) (i:Nat) (q:Rq):List Rq:=l.take i++q::l.drop i
theorem PO (l:List Rq) (i:Nat) (q:Rq) (hi:i<=l.length):(qH l i q).length=l.length+1:=by
 unfold qH;rw [List.length_append,List.length_cons,List.length_take,List.length_drop];omega
theorem ajM (B:Nat) (a:Option Addr) (cap i:Nat) (l:List Rq) (q:Rq) (vb:Nat) (w:World) (hl:l.length<=1000) (hi:i<=l.length) (hB:B<=w.heap.size) (ho:w.ownsRow B 97 4 (.slice a l.length cap) l.length (GR.flat aN l)) (hv:w.heap[vb]?=some (.cells (eG q.no q.k q.n q.s) 97 (0,0))) (hne:∀x,(Value.slice a l.length cap).ownBlock=some x->vb≠x):
 Calls prog 189 #[.slice a l.length cap,.int .i64 i,.slice (some ⟨vb,0,none⟩) 1 1] w (KG w B (.slice a l.length cap) (qH l i q)):=by
 have hlen:=PO l i q hi;by_cases he:i=l.length
 .subst he;have e:qH l l.length q=l++[q]:=by unfold qH;rw [List.take_length,List.drop_length]
  rw [e];exact TJ B a cap l q vb w hl hB ho hv
 have hi2:i < l.length:=Aaa
 have hfl:(GR.flat aN (qH l i q)).length=(l.length+1)*4:=by rw [iC,hlen]
 open aub in exact aal
abbrev zQ:List Value:=[.int .i64 0,.string ⟨#[]⟩,.int .i64 0,.int .i64 0]
theorem IE (w:World) (ty:TypeId) (g o c:Nat) (cur:Array Value) (hg:w.heap[g]?=some (.cells cur 97 (0,0))) (hfit:o+4<=cur.size):
 (Builtin.clear_ #[28] ty #[.slice (some ⟨g,o,none⟩) 1 c]).run prog w= .ok (.tuple #[]) (w.setRow g (cur.toList.take o++zQ++cur.toList.drop (o+4)).toArray):=by
 have hst:=run_storeCells_at prog g o 97 zQ 0 cur w hg (by simpa using hfit) (by intro u hu;simp only[zQ,List.mem_cons,List.not_mem_nil,or_false] at hu;rcases hu with rfl|rfl|rfl|rfl<;>rfl);have hzc:(Builtin.zeroCells (Value.cells (.agg (eG 0 ⟨#[]⟩ 0 0))) 1).toList=zQ:=Aab
 have h1:(Builtin.clear_ #[28] ty #[.slice (some ⟨g,o,none⟩) 1 c]).run prog w=((storeCells ⟨g,o,none⟩ zQ).run prog w).andThen λ_ w'=> .ok (.tuple #[]) w':=by
  simp[Builtin.clear_,run_underlying underlying28];rw [hzc]
 rw [h1,hst];rfl
def Aq (cur:List Value) (l:List Rq):List Value:=cur.take (0*4)++GR.flat aN (l.drop 1)++cur.drop (0*4+(GR.flat aN (l.drop 1)).length)
def MJ (cur:List Value) (l:List Rq):List Value:=(Aq cur l).take ((l.length - 1)*4)++zQ++(Aq cur l).drop ((l.length - 1)*4+4)
theorem F9 (cur:List Value) (l:List Rq) (h2:2<=l.length) (hc:l.length*4<=cur.length):(Aq cur l).length=cur.length:=by
 unfold Aq;exact ahy
theorem acM (cur:List Value) (l:List Rq) (h2:2<=l.length) (hc:l.length*4<=cur.length):(MJ cur l).length=cur.length:=by
 have h1:=F9 cur l h2 hc;unfold MJ;exact ahD
theorem Yj (cur:List Value) (l:List Rq) (h2:2<=l.length) (hc:l.length*4<=cur.length):(MJ cur l).take ((l.length - 1)*4)=GR.flat aN (l.drop 1):=by
 have h1:=F9 cur l h2 hc;have hd:(GR.flat aN (l.drop 1)).length=(l.length - 1)*4:=Ack
 unfold MJ;rw [List.append_assoc,List.take_append_of_le_length (by rw [List.length_take,h1];omega),List.take_take,Nat.min_self];unfold Aq;rw [Nat.zero_mul,List.take_zero,List.nil_append,<-hd,List.take_left]
theorem WY (g cap:Nat) (l:List Rq) (w:World) (cur:Array Value) (h2:2<=l.length) (hl:l.length<=1000) (hnc:l.length<=cap) (hcm:cap<=maxLen) (hblk:w.heap[g]?=some (.cells cur 97 (0,0))) (hcs:cur.size=cap*4) (htake:cur.toList.take (l.length*4)=GR.flat aN l):
 Calls prog 190 #[.slice (some ⟨g,0,none⟩) l.length cap,.int .i64 0,.int .i64 1] w λe w'=>
  e= .returned (.slice (some ⟨g,0,none⟩) (l.length - 1) cap)/\w'.heap[g]?=some (.cells (MJ cur.toList l).toArray 97 (0,0))/\w.grownBy w' (some g):=by
 obtain⟨i0,hi0,hz0,hz1,hz2⟩:=info_parts TI;have abu:cur.toList.length=cap*4:=Aed
 have hdl:(GR.flat aN (l.drop 1)).length=(l.length - 1)*4:=Ack
 have hap:∀W:World,W.heap[g]?=some (.cells cur 97 (0,0))->∀ty dc,(Builtin.append_ #[28,28] ty #[.slice (some ⟨g,0,none⟩) 0 cap,.slice (some ⟨g,4,none⟩) (l.length - 1) dc]).run prog W= .ok (.slice (some ⟨g,0,none⟩) (l.length - 1) cap) (W.setRow g (Aq cur.toList l).toArray):=λW hW ty dc=>by
  have h:=run_append_room (P:=prog) W 28 ty 97 i0 underlying28 hi0 g 0 cap cur hW ⟨g,4,none⟩ (l.length - 1) dc (GR.flat aN (l.drop 1)) (by rw [hz1,hdl])
   (λj v hj=>by
    rw [Addr.add_lit]
    have h1:(GR.flat aN l)[4+j]?=some v:=by
     have:=(sJ l 1 Aaa).2;rw [<-List.getElem?_drop];rw [show(4:Nat)=1*4 from rfl,this];exact hj
    rw [<-htake,List.getElem?_take] at h1
    split at h1
    .have h2:W.cell? ⟨g,4+j,none⟩=cur[4+j]?:=cell_of_row W g (4+j) cur 97 (0,0) hW;rw [h2,<-Array.getElem?_toList];exact h1
    .cases h1)
   (λv hv=>iP _ v hv) Aaa (by rw [hz1,hdl,hcs];omega)
  rw [hz1,Nat.zero_add] at h
  exact h
 have hcl:∀W:World,W.heap[g]?=some (.cells cur 97 (0,0))->∀ty c,(Builtin.clear_ #[28] ty #[.slice (some ⟨g,(l.length - 1)*4,none⟩) 1 c]).run prog (W.setRow g (Aq cur.toList l).toArray)= .ok (.tuple #[]) ((W.setRow g (Aq cur.toList l).toArray).setRow g (MJ cur.toList l).toArray):=λW hW ty c=>by
  have hb:(W.setRow g (Aq cur.toList l).toArray).heap[g]?=some (.cells (Aq cur.toList l).toArray 97 (0,0)):=setRow_heap W g cur _ 97 _ hW
  exact IE _ ty g ((l.length - 1)*4) c (Aq cur.toList l).toArray hb (by rw [List.size_toArray,F9 _ _ h2 Aaa,abu];omega)
 have Dv:=Hq (show∀W:World,Ge w W->((W.setRow g (Aq cur.toList l).toArray).setRow g (MJ cur.toList l).toArray).heap[g]?=some (.cells (MJ cur.toList l).toArray 97 (0,0))/\w.grownBy ((W.setRow g (Aq cur.toList l).toArray).setRow g (MJ cur.toList l).toArray) (some g) from λW hW=>
  ⟨setRow_heap _ g (Aq cur.toList l).toArray _ 97 _ (setRow_heap W g cur _ 97 _ (ay hblk hW)),⟨hW.os,hW.tape,hW.output,by have:=hW.size;simpa using this,λk hl hk=>((setRow_other _ g k _ (λe=>hk Aao)).trans (setRow_other W g k _ (λe=>hk Aao))).trans (hW.block k hl)⟩⟩)
 have ait:=Hq hblk;have ajn:l.length - (l.length - 1)=1:=Aaa
 have mixed:prog.follows .mixedOrders=true:=Aab
 have hc63:cap<=9223372036854775807:=Acn
 have hb1:(1:Int)<=(l.length:Int):=Aaa
 have hb2:¬(cap=1):=Aaa
 have hb3:¬(l.length=0):=Aaa
 have hnn:(l.length:Int) - 1=((l.length - 1:Nat):Int):=Aaa
 clear hcs hblk htake hcm abu hdl hi0 hz0 hz1 hz2;go_in
 go_wp2_with fail;refine bV 6 Aab ?_;show fD _ _ _ _ _ 8 (Array.replicate 8 false) _ _
 refine tk [0,1,2,3,4,5] ?_;iterate 6 (refine su (λK hK=>?_);go_simp;refine hK _ ?_;clear hK K)
 refine jc ?_;refine bf Aab (λx hx=>?_);have aA4:=hap x (ay ait hx);have aA5:=hcl x (ay ait hx);have HF2:=Hq (Dv x hx);clear hap hcl hx Dv ait;refine aF 6 rfl Aab Aad ?_;refine Lib.wp_append_run x (.tmp 22) (.tmp 25) 28 28 rfl (.slice (some ⟨g,0,none⟩) 0 cap) (.slice (some ⟨g,4,none⟩) (l.length - 1) (cap - 1)) Aaj Aaj _ _ (aA4 _ _) ?_;refine aF 7 rfl Aab Aad ?_;go_simp;refine wpAny_done Aab ?_;go_simp;go_wp2_with (simp only[ajn,aA5])
 go_ret;exact⟨rfl,HF2.1,HF2.2⟩
theorem aji (B:Nat) (a:Option Addr) (cap:Nat) (l:List Rq) (w:World) (h2:2<=l.length) (hl:l.length<=1000) (ho:w.ownsRow B 97 4 (.slice a l.length cap) l.length (GR.flat aN l)):
 Calls prog 190 #[.slice a l.length cap,.int .i64 0,.int .i64 1] w (KG w B (.slice a l.length cap) (l.drop 1)):=by
 have hlen:(l.drop 1).length=l.length - 1:=by rw [List.length_drop]
 open auc in exact aal
theorem aeL {w0 w x:World} {wb:Nat} {n:Nd} {A:bC} {G:bJ} {c:Nat->Nat} {v:Value} {L:List Mg} (h:WK w0 w wb n A G c v L) (hb:aY w x) (hg:w.heap.size<=g) (hp:BJ x a g r.1):
 Calls prog 162 #[.pointer (some ⟨wb,0,none⟩),.slice a r.1.length cp,.bool r.2] x λe w'=>e= .returned (.bool r.2)/\∃A' G' c',WK w0 w' wb (if r.2=true then setPu n r.1 else n) A' G' c' v L/\A'.r=A.r:=by
 obtain⟨l,b⟩:=r;cases b with
 |false=>
  refine(Cw wb a l.length cp x).mono ?_
  rintro e w' ⟨rfl,rfl⟩
  exact⟨rfl,A,G,c,h.step hb,rfl⟩
 |true=>
  refine(yO wb n A v a l.length cp x (h.step hb).blk).mono ?_
  rintro e w' ⟨rfl,rfl⟩
  exact⟨rfl,_,_,_,h.setPu hb hp (λy hy=>by rw [(gV hy).1];exact hg),rfl⟩
theorem WK.reqRow {w0 w:World} {wb:Nat} {n:Nd} {A:bC} {G:bJ} {c:Nat->Nat} {v:Value} {L:List Mg} (h:WK w0 w wb n A G c v L) (i:Nat) (hi:i < n.reqs.length):∃g,A.r=some ⟨g,0,none⟩/\g≠wb/\g < w.heap.size/\(w.cell? ⟨g,i*4,none⟩=some (.int .i64 n.reqs[i].no)/\w.cell? ⟨g,i*4+1,none⟩=some (.string n.reqs[i].k)/\w.cell? ⟨g,i*4+2,none⟩=some (.int .i64 n.reqs[i].n)/\w.cell? ⟨g,i*4+3,none⟩=some (.int .i64 n.reqs[i].s))/\w.frozen? ⟨g,i*4+3,none⟩=false:=by
 obtain⟨a,cp,g,he,hW,hlt,hown⟩:=GR.W.of_own bX h.no.r;have hmem:g∈fp g n.reqs:=dK Aaa;obtain⟨ea,hg,hc,_,_,_,hf⟩:=GR.W.fourReq hW i hi;have hA:A.r=a:=by cases he;rfl
 refine⟨g,by rw [hA,ea],?_,hg,hc,hf⟩;intro hw;have h6:=h.no.cr g (hown g hmem);rw [hw,h.cw] at h6;cases h6
theorem WK.reqSet {w0 w:World} {wb:Nat} {n:Nd} {A:bC} {G:bJ} {c:Nat->Nat} {v:Value} {L:List Mg} (h:WK w0 w wb n A G c v L) (i:Nat) (hi:i < n.reqs.length) (g:Nat) (hg:A.r=some ⟨g,0,none⟩):WK w0 (w.setCell ⟨g,i*4+3,none⟩ (.int .i64 2)) wb (eH n (n.reqs.set i (qj n.reqs[i]))) A G c v L:=by
 have ho:=h.no.r;have hcr:=h.no.cr;rw [hg] at ho hcr;have hc6:c g=6:=hcr g rfl;have hk:KC c 6 w (w.setCell ⟨g,i*4+3,none⟩ (.int .i64 2)):=KC.set hc6;have hno:=h.no;have hst:=(ho.stored (i*4+3) (.int .i64 2)).1;rw [Pb 2 n.reqs i hi] at hst;have hlen:(n.reqs.set i (qj n.reqs[i])).length=n.reqs.length:=Aac
 refine⟨hk.below h.keep hno.lo Aaa h.keep.size,?_,⟨hk.w hno.k hno.ck Aaa,hk.w hno.p hno.cp Aaa,hk.own hno.o hno.co Aaa,hk.seen hno.s hno.c4 hno.ci Aaa Aaa,?_,hno.lo,hno.ck,hno.cp,hno.co,hno.c4,hno.ci,?_,hno.ni⟩,hk.own h.m h.cm Aaa,h.cm,h.cw⟩
 .have:=hk.obj h.blk (by rw [h.cw];omega);rw [this];show some (Obj.cells #[_,_,_,_,_,_,_,_,.slice A.r n.reqs.length A.cr,_] _ _)=some (Obj.cells #[_,_,_,_,_,_,_,_,.slice A.r (n.reqs.set i (qj n.reqs[i])).length A.cr,_] _ _)
  rw [hlen];rfl
 .show(w.setCell _ _).ownsRow _ _ _ (.slice A.r (n.reqs.set i (qj n.reqs[i])).length A.cr) (n.reqs.set i (qj n.reqs[i])).length (GR.flat aN (n.reqs.set i (qj n.reqs[i])))
  rw [hlen,hg];exact hst
 .show∀x,(Value.slice A.r (n.reqs.set i (qj n.reqs[i])).length A.cr).ownBlock=some x->_
  rw [hlen];exact h.no.cr
theorem Rn (o:fP) (hc:o.no<=n.old) (h:WK w0 w wb n A G c v L):Calls prog 109 #[.pointer (some ⟨wb,0,none⟩),jX o] w λe w'=>e= .returned (.int .i64 (bn n o.no).2)/\∃A' G' c',WK w0 w' wb (bn n o.no).1 A' G' c' v L:=by
 have hR:bn n o.no=(n,2):=if_pos hc;rw [hR];have hd:decide (o.no<=n.old)=true:=decide_eq_true hc;clear hR;open aAb in exact Sk
theorem Uy (o:fP) (hok:iy n=true) (h0:0<=o.no) (h1:o.no<=1000000000) (hc:¬o.no<=n.old) (hf:oq n.reqs o.no=false) (h:WK w0 w wb n A G c v L):Calls prog 109 #[.pointer (some ⟨wb,0,none⟩),jX o] w λe w'=>e= .returned (.int .i64 (bn n o.no).2)/\∃A' G' c',WK w0 w' wb (bn n o.no).1 A' G' c' v L:=by
 have hR:bn n o.no=(n,1):=by unfold bn;rw [if_neg hc,if_pos hf]
 rw [hR];have hd:decide (o.no<=n.old)=false:=decide_eq_false hc;have rT:=Hq (λw1 (hw:WK w0 w1 wb n A G c v L)=>Nr w0 w1 wb n A G c v L o.no hok h0 h1 hw);rw [hf] at rT;clear hR h0 h1 hok hf;open aAa in exact Sk
theorem Jm (o:fP) (hok:iy n=true) (h0:0<=o.no) (h1:o.no<=1000000000) (hc:¬o.no<=n.old) (hf:oq n.reqs o.no=true) (hs:(n.reqs.getD (dZ n.reqs o.no) default).s=1) (h:WK w0 w wb n A G c v L):Calls prog 109 #[.pointer (some ⟨wb,0,none⟩),jX o] w λe w'=>e= .returned (.int .i64 (bn n o.no).2)/\∃A' G' c',WK w0 w' wb (bn n o.no).1 A' G' c' v L:=by
 have hR:bn n o.no=(n,1):=by unfold bn;rw [if_neg hc,if_neg Abr];rw [if_pos hs]
 exact aw8
theorem Rm (o:fP) (hok:iy n=true) (h0:0<=o.no) (h1:o.no<=1000000000) (hc:¬o.no<=n.old) (hf:oq n.reqs o.no=true) (hs:(n.reqs.getD (dZ n.reqs o.no) default).s=2) (h:WK w0 w wb n A G c v L):Calls prog 109 #[.pointer (some ⟨wb,0,none⟩),jX o] w λe w'=>e= .returned (.int .i64 (bn n o.no).2)/\∃A' G' c',WK w0 w' wb (bn n o.no).1 A' G' c' v L:=by
 have hR:bn n o.no=(n,0):=by unfold bn;rw [if_neg hc,if_neg Abr];rw [if_neg Aaa,if_pos hs]
 exact aw8
theorem YH (o:fP) (E:Nat->Addr) (hz:eY n 1048576) (hok:iy n=true) (h0:0<=o.no) (h1:o.no<=1000000000) (hc:¬o.no<=n.old) (hf:oq n.reqs o.no=true) (hs:(n.reqs.getD (dZ n.reqs o.no) default).s=0) (h:WK w0 w wb n A G c v L) (he:iH w0 E):Calls prog 109 #[.pointer (some ⟨wb,0,none⟩),jX o] w λe w'=>e= .returned (.int .i64 (bn n o.no).2)/\∃A' G' c',WK w0 w' wb (bn n o.no).1 A' G' c' v L:=by
 have hR:bn n o.no=(if (dJ n.pu (n.reqs.getD (dZ n.reqs o.no) default).k 0 1 (-1) (n.reqs.getD (dZ n.reqs o.no) default).n).2=true then
  (eH (setPu n (dJ n.pu (n.reqs.getD (dZ n.reqs o.no) default).k 0 1 (-1) (n.reqs.getD (dZ n.reqs o.no) default).n).1) (n.reqs.set (dZ n.reqs o.no) (qj (n.reqs.getD (dZ n.reqs o.no) default))),0) else(n,1)):=by
  unfold bn
  rw [if_neg hc,if_neg Abr,if_neg Aaa,if_neg Aaa]
 rw [hR];have hd:decide (o.no<=n.old)=false:=decide_eq_false hc;open arT in exact Z5
theorem YI (o:fP) (E:Nat->Addr) (hz:eY n 1048576) (hok:iy n=true) (h0:0<=o.no) (h1:o.no<=1000000000) (h:WK w0 w wb n A G c v L) (he:iH w0 E):Calls prog 109 #[.pointer (some ⟨wb,0,none⟩),jX o] w λe w'=>e= .returned (.int .i64 (bn n o.no).2)/\∃A' G' c',WK w0 w' wb (bn n o.no).1 A' G' c' v L:=by
 by_cases hc:o.no<=n.old
 .exact Rn w0 w wb n A G c v L o hc h
 cases hf:oq n.reqs o.no with
 |false=>exact Uy w0 w wb n A G c v L o hok h0 h1 hc hf h
 |true=>
  have hil:=((pE n.reqs o.no).1 hf).1
  have hgd:n.reqs.getD (dZ n.reqs o.no) default=n.reqs[dZ n.reqs o.no]:=by rw [List.getD_eq_getElem?_getD,List.getElem?_eq_getElem hil];rfl
  obtain⟨_,_,_,_,b1,b2⟩:=kK ((jl hok).2.2.1 _ (List.getElem_mem hil))
  rw [<-hgd] at b1 b2
  by_cases s1:(n.reqs.getD (dZ n.reqs o.no) default).s=1
  .exact Jm w0 w wb n A G c v L o hok h0 h1 hc hf s1 h
  by_cases s2:(n.reqs.getD (dZ n.reqs o.no) default).s=2
  .exact Rm w0 w wb n A G c v L o hok h0 h1 hc hf s2 h
  .exact YH w0 w wb n A G c v L o E hz hok h0 h1 hc hf Aaa h he
theorem WK.reqPut {w0 w w6:World} {wb:Nat} {n:Nd} {A:bC} {G:bJ} {c:Nat->Nat} {v:Value} {L:List Mg} {a6:Option Addr} {c6:Nat} {l:List Rq} (h:WK w0 w wb n A G c v L) (hown:w6.ownsRow w0.heap.size 97 4 (.slice a6 l.length c6) l.length (GR.flat aN l)) (hg:w.grownBy w6 (Value.slice A.r n.reqs.length A.cr).ownBlock) (hv:∀x,(Value.slice a6 l.length c6).ownBlock=some x->(Value.slice A.r n.reqs.length A.cr).ownBlock=some x\/w.heap.size<=x):
 w6.heap[wb]?=some (.cells (RI n A v) 74 (0,0))/\WK w0 (w6.setCell ⟨wb,8,none⟩ (.slice a6 l.length c6)) wb (eH n l) ⟨A.k,A.p,A.o,A.s,a6,A.ck,A.cp,A.co,A.cs,c6⟩ G (newC w.heap.size 6 c) v L:=by
 have h1:=h.recol (c':=newC w.heap.size 6 c) (λx hx=>eT hx);have hk1:KC (newC w.heap.size 6 c) 6 w w6:=KC.grown hg h1.no.cr;have hblk:=hk1.obj h1.blk (by rw [h1.cw];omega);have hkeep:=hk1.below h1.keep h1.no.lo Aaa h1.keep.size;have hk2:KC (newC w.heap.size 6 c) 8 w6 (w6.setCell ⟨wb,8,none⟩ (.slice a6 l.length c6)):=KC.set h1.cw
 have hcr:∀x,(Value.slice a6 l.length c6).ownBlock=some x->newC w.heap.size 6 c x=6:=λx hx=>by
  rcases hv x hx with hx'|hx'
  .exact h1.no.cr x hx'
  .exact aZ hx'
 have hno:=h1.no;refine⟨hblk,hk2.below hkeep hno.lo Aaa hkeep.size,?_,⟨?_,?_,?_,?_,?_,hno.lo,hno.ck,hno.cp,hno.co,hno.c4,hno.ci,hcr,hno.ni⟩,?_,h1.cm,h1.cw⟩
 .exact aT hblk 8 (.slice a6 l.length c6)
 .exact hk2.w (hk1.w hno.k hno.ck Aaa) hno.ck Aaa
 .exact hk2.w (hk1.w hno.p hno.cp Aaa) hno.cp Aaa
 .exact hk2.own (hk1.own hno.o hno.co Aaa) hno.co Aaa
 .exact ahB
 .exact hk2.own hown hcr Aaa
 .exact hk2.own (hk1.own h1.m h1.cm Aaa) h1.cm Aaa
theorem WK.oldPut {w0 w:World} {wb:Nat} {n:Nd} {A:bC} {G:bJ} {c:Nat->Nat} {v:Value} {L:List Mg} (h:WK w0 w wb n A G c v L) (y:Int):WK w0 (w.setCell ⟨wb,7,none⟩ (.int .i64 y)) wb (nJ n y) A G c v L:=by
 have hk2:KC c 8 w (w.setCell ⟨wb,7,none⟩ (.int .i64 y)):=KC.set h.cw;have hno:=h.no.kc hk2 Aaa;exact⟨hk2.below h.keep h.no.lo Aaa h.keep.size,aT h.blk 7 (.int .i64 y),⟨hno.k,hno.p,hno.o,hno.s,hno.r,hno.lo,hno.ck,hno.cp,hno.co,hno.c4,hno.ci,hno.cr,hno.ni⟩,hk2.own h.m h.cm Aaa,h.cm,h.cw⟩
def Db (n:Nd) (q:Rq) (i:Nat):Nd:=if 30 < (qH n.reqs i q).length then eH (nJ n ((qH n.reqs i q).headD default).no) ((qH n.reqs i q).drop 1) else eH n (qH n.reqs i q)
theorem FN (n:Nd) (q:Rq):Db n q (dZ n.reqs q.no)=nA n q:=by
 unfold Db nA;rw [show qH n.reqs (dZ n.reqs q.no) q=uH n.reqs q from rfl,List.drop_one]
theorem ac6 (q:Rq) (i:Nat) (hi:i<=n.reqs.length) (hr:n.reqs.length<=30) (h:WK w0 w wb n A G c v L):
 Calls prog 166 #[.pointer (some ⟨wb,0,none⟩),.agg (eG q.no q.k q.n q.s),.int .i64 i] w λe w'=>e= .returned (.tuple #[])/\∃A' G' c',WK w0 w' wb (Db n q i) A' G' c' v L:=by
 have HW:=Hq h;have HW1:=Hq (h.step (au w (.cells (eG q.no q.k q.n q.s) 97)));have xB:=Hq (heap_alloc_new w (.cells (eG q.no q.k q.n q.s) 97));clear h;have hlen:=PO n.reqs i q hi;obtain⟨c0,c1,c2,c3,c4,c5,c6,c7,c8,c9⟩:=jr HW1.blk;obtain⟨p0,p1,p2,p3⟩:=gP xB;have hwl:=aA HW.blk;have hne:wb≠w.heap.size:=Aaa
 go_in
 go_upto_region 1 with fail;have y8:=cell_regrown c8;have z0:=cell_regrown p0;have z1:=cell_regrown p1;have z2:=cell_regrown p2;have z3:=cell_regrown p3;clear c0 c1 c2 c3 c4 c5 c6 c7 c8 c9 p0 p1 p2 p3;refine kN Aab ?_;show uX _ _ _ _ 14 (Array.replicate 14 false) _ _
 open apR in exact ZX
theorem VP {w0 w x:World} {wb:Nat} {n:Nd} {A:bC} {G:bJ} {c:Nat->Nat} {v:Value} {L:List Mg} (h:WK w0 w wb n A G c v L) (hb:aY w x) (hg:w.heap.size<=g) (hp:BJ x a g r.1):
 Calls prog 162 #[.pointer (some ⟨wb,0,none⟩),.slice a r.1.length cp,.bool r.2] x λe w'=>e= .returned (.bool r.2)/\∃A' G' c',WK w0 w' wb (if r.2=true then setPu n r.1 else n) A' G' c' v L/\(∀k o,k≠wb->x.heap[k]?=some o->w'.heap[k]?=some o)/\∀k,k < w.heap.size->c' k=c k:=by
 obtain⟨l,b⟩:=r;cases b with
 |false=>
  refine(Cw wb a l.length cp x).mono ?_
  rintro e w' ⟨rfl,rfl⟩
  exact⟨rfl,A,G,c,h.step hb,λ_ _ _ h=>h,λ_ _=>rfl⟩
 |true=>
  refine(yO wb n A v a l.length cp x (h.step hb).blk).mono ?_
  rintro e w' ⟨rfl,rfl⟩
  exact⟨rfl,_,_,_,h.setPu hb hp (λy hy=>by rw [(gV hy).1];exact hg),λk o hk ho=>by rw [Below.heap_setCell _ _ _ _ hk];exact ho,λk hk=>eT hk⟩
theorem ayx {w:World} {a b d e u:Value} {t:TypeId} (h:w.heap[g]?=some (.cells #[a,b,d,e] t (0,0))):(w.setCell ⟨g,3,none⟩ u).heap[g]?=some (.cells #[a,b,d,u] t (0,0)):=aT h 3 u
theorem Ri (o:fP) (hc:o.no<=n.old) (h:WK w0 w wb n A G c v L):Calls prog 108 #[.pointer (some ⟨wb,0,none⟩),jX o] w λe w'=>e= .returned (.int .i64 (gJ n o.no o.k o.n).2)/\∃A' G' c',WK w0 w' wb (gJ n o.no o.k o.n).1 A' G' c' v L:=by
 have hR:gJ n o.no o.k o.n=(n,2):=if_pos hc;rw [hR];have hd:decide (o.no<=n.old)=true:=decide_eq_true hc;clear hR;open aAe in exact Sk
theorem YE (o:fP) (E:Nat->Addr) (hz:eY n 1048576) (hok:iy n=true) (hk:o.k.size<=1048576) (h0:0<=o.no) (h1:o.no<=1000000000) (hc:¬o.no<=n.old) (hf:oq n.reqs o.no=false) (h:WK w0 w wb n A G c v L) (he:iH w0 E):Calls prog 108 #[.pointer (some ⟨wb,0,none⟩),jX o] w λe w'=>e= .returned (.int .i64 (gJ n o.no o.k o.n).2)/\∃A' G' c',WK w0 w' wb (gJ n o.no o.k o.n).1 A' G' c' v L:=by
 have hR:gJ n o.no o.k o.n=(nA (setPu n (dJ n.pu o.k 0 (-1) 1 o.n).1) ⟨o.no,o.k,o.n,if (dJ n.pu o.k 0 (-1) 1 o.n).2=true then 0 else 1⟩,if (dJ n.pu o.k 0 (-1) 1 o.n).2=true then 0 else 1):=by
  unfold gJ;rw [if_neg hc,if_neg Abr]
 have HAD:=Hq hR;generalize gJ n o.no o.k o.n=RES at *;have hd:decide (o.no<=n.old)=false:=decide_eq_false hc;have rT:=Hq (λw1 c1 (hw:WK w0 w1 wb n A G c1 v L)=>Nr w0 w1 wb n A G c1 v L o.no hok h0 h1 hw);rw [hf] at rT;have hlen:=(jl hok).2.1;have hil:=wV n.reqs o.no;have HRL:=Hq (show(dJ n.pu o.k 0 (-1) 1 o.n).2=false->(dJ n.pu o.k 0 (-1) 1 o.n).1=n.pu from JH);have HKI:=Hq (fun(l:List Pu) s=>FN (setPu n l) ⟨o.no,o.k,o.n,s⟩);have HKN:=Hq (λs=>FN n ⟨o.no,o.k,o.n,s⟩);dsimp only[setPu] at HKI;dsimp only at HKN;have Rv:=Hq (λw1 c1 (hw:WK w0 w1 wb n A G c1 v L)=>XD A.p A.cp n.pu o.k o.n E w1 hz.p hz.pk hk hw.no.p.at (he.below hw.keep));unfold ku at Rv;generalize dJ n.pu o.k 0 (-1) 1 o.n=r at *;generalize dZ n.reqs o.no=i at *;clear hR h0 h1 hok hf he hz;open aAd in exact Sk
theorem aAR (no:Int) (k k':ByteArray) (n n' s s':Int) (W:World):(binOp .eql 97 (.agg (eG no k n s)) (.agg (eG no k' n' s'))).run prog W= .ok (.bool ((k.toList == k'.toList)&&decide (n=n')&&decide (s=s'))) W:=by
 by_cases h1:k.toList == k'.toList<;>by_cases h2:n=n'<;>by_cases h3:s=s'<;>simp[go_sem,h1,h2,h3]
theorem Rh (o:fP) (hok:iy n=true) (hk:o.k.size<=1048576) (h0:0<=o.no) (h1:o.no<=1000000000) (hc:¬o.no<=n.old) (hf:oq n.reqs o.no=true) (h:WK w0 w wb n A G c v L):Calls prog 108 #[.pointer (some ⟨wb,0,none⟩),jX o] w λe w'=>e= .returned (.int .i64 (gJ n o.no o.k o.n).2)/\∃A' G' c',WK w0 w' wb (gJ n o.no o.k o.n).1 A' G' c' v L:=by
 open arU in exact Z5
theorem aeP (o:fP) (E:Nat->Addr) (hz:eY n 1048576) (hok:iy n=true) (hk:o.k.size<=1048576) (h0:0<=o.no) (h1:o.no<=1000000000) (h:WK w0 w wb n A G c v L) (he:iH w0 E):Calls prog 108 #[.pointer (some ⟨wb,0,none⟩),jX o] w λe w'=>e= .returned (.int .i64 (gJ n o.no o.k o.n).2)/\∃A' G' c',WK w0 w' wb (gJ n o.no o.k o.n).1 A' G' c' v L:=by
 by_cases hc:o.no<=n.old
 .exact Ri w0 w wb n A G c v L o hc h
 cases hf:oq n.reqs o.no with
 |false=>exact YE w0 w wb n A G c v L o E hz hok hk h0 h1 hc hf h he
 |true=>exact Rh w0 w wb n A G c v L o hok hk h0 h1 hc hf h
end Go.Proofs.YtacgbldlonoaaaaGreatDoor
