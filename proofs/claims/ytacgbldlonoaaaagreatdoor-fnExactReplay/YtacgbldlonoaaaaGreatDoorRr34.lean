/- Parts. -/
import Derived.Test.YtacgbldlonoaaaaGreatDoorRr33
namespace Go.Proofs.YtacgbldlonoaaaaGreatDoor
set_option maxHeartbeats 8000000
set_option maxRecDepth 100000
open Go.RowKit
open Mth
def yJ (R:List Value) (i:Nat) (q:Rq):List Value:=R.take (i*4)++aM q++R.drop (i*4+4)
def Fv (R:List Value) (l:List Rq) (i:Nat) (q:Rq):List Value:=(yJ R i q).take ((i+1)*4)++GR.flat aM (l.drop i)++(yJ R i q).drop ((i+1)*4+(l.length - i)*4)
theorem NK (R:List Value) (i:Nat) (q:Rq) (h:i*4+4<=R.length):(yJ R i q).length=R.length:=by
 unfold yJ;rw [List.length_append,List.length_append,List.length_take,List.length_drop];show _+4+_=_
 omega
theorem Zt (R:List Value) (l:List Rq) (i:Nat) (q:Rq) (hi:i < l.length) (h:(l.length+1)*4<=R.length):(Fv R l i q).length=R.length:=by
 have h1:=NK R i q Aaa;unfold Fv;rw [List.length_append,List.length_append,gT,List.length_take,List.length_drop,List.length_drop,h1];omega
theorem UG (R:List Value) (l:List Rq) (i:Nat) (q:Rq) (hi:i < l.length) (_h:(l.length+1)*4<=R.length) (ht:R.take (i*4)=GR.flat aM (l.take i)):(Fv R l i q).take ((l.length+1)*4)=GR.flat aM (l.take i++q::l.drop i):=by
 have ht2:(GR.flat aM (l.take i)).length=i*4:=by rw [gT,List.length_take,Nat.min_eq_left Aaa]
 have hd:(GR.flat aM (l.drop i)).length=(l.length - i)*4:=Acb
 have e1:(yJ R i q).take ((i+1)*4)=GR.flat aM (l.take i)++aM q:=by
  unfold yJ;rw [ht];have:(i+1)*4=(GR.flat aM (l.take i)++aM q).length:=by rw [List.length_append,ht2];show _=_+4;omega
  rw [this,List.take_left]
 unfold Fv;rw [e1,GR.flat_append,GR.flat_cons,<-List.append_assoc];rw [show(l.length+1)*4=(GR.flat aM (l.take i)++aM q++GR.flat aM (l.drop i)).length by rw [List.length_append,List.length_append,hd,ht2];show _=_+4+_;omega,List.take_left]
theorem MZ (g cap i:Nat) (l:List Rq) (q:Rq) (vb:Nat) (w:World) (cur:Array Value) (hl:l.length<=1000) (hi:i < l.length) (hnc:l.length<=cap) (hroom:cap < l.length+1) (hblk:w.heap[g]?=some (.cells cur 97 (0,0))) (htake:cur.toList.take (l.length*4)=GR.flat aM l) (hv:w.heap[vb]?=some (.cells (dX q.no q.k q.n q.s) 97 (0,0))):
 Calls Tryz.prog 189 #[.slice (some ⟨g,0,none⟩) l.length cap,.int .i64 i,.slice (some ⟨vb,0,none⟩) 1 1] w λe w'=>
  ∃G cur',e= .returned (.slice (some ⟨w.heap.size,0,none⟩) (l.length+1) G)/\l.length+1<=G/\G<=maxLen/\w'.heap[w.heap.size]?=some (.cells cur' 97 (0,0))/\cur'.size=G*4/\cur'.toList.take ((l.length+1)*4)=GR.flat aM (l.take i++q::l.drop i)/\w.grownBy w' none:=by
 obtain⟨i0,hi0,hz0,hz1,hz2⟩:=info_parts Qg;have hgw:=aA hblk;have hvw:=aA hv;have hdl:(GR.flat aM (l.drop i)).length=(l.length - i)*4:=Acb
 have htl:(GR.flat aM (l.take i)).length=i*4:=by rw [gT,List.length_take,Nat.min_eq_left Aaa]
 have hcell:∀(W:World),W.heap[g]?=w.heap[g]?->∀j v,(GR.flat aM l)[j]?=some v->W.cell? ⟨g,j,none⟩=some v:=λW hW j v hj=>by
  have h2:W.cell? ⟨g,j,none⟩=cur[j]?:=cell_of_row W g j cur 97 (0,0) (hW.trans hblk)
  rw [<-htake,List.getElem?_take] at hj
  split at hj
  .rw [h2,<-Array.getElem?_toList];exact hj
  .cases hj
 have hold:(Builtin.firstCells i0.size i (.slice (some ⟨g,0,none⟩) i cap)).run Tryz.prog w.drew= .ok (GR.flat aM (l.take i)).toArray w.drew:=by
  rw [hz1]
  exact run_firstCells_some w.drew 4 i ⟨g,0,none⟩ i cap _ htl (λj v hj=>by
   rw [Addr.add_lit,Nat.zero_add]
   refine hcell w.drew rfl j v ?_
   rw [<-(qG l i Aaa).1,List.getElem?_take] at hj
   split at hj
   .exact hj
   .cases hj)
 have hkk:(l.length:Int)+1 - (i:Int)=((l.length+1 - i:Nat):Int):=Aaa
 have hik:i+(l.length+1 - i)=l.length+1:=Aaa
 obtain⟨G,hG⟩:∃G,G=grownCap w (l.length+1) cap 97:=⟨_,rfl⟩;obtain⟨R,hR⟩:∃R:Array Value,R=(GR.flat aM (l.take i)).toArray++Builtin.zeroCells (Value.cells (.agg (dX 0 ByteArray.empty 0 0))) (l.length+1 - i)++Builtin.zeroCells (Value.cells (.agg (dX 0 ByteArray.empty 0 0))) (G - (l.length+1)):=⟨_,rfl⟩
 have hrz:∀ty,(Builtin.append_ #[28,3] ty #[.slice (some ⟨g,0,none⟩) i cap,.int .i64 ((l.length:Int)+1 - (i:Int))]).run Tryz.prog w= .ok (.slice (some ⟨w.heap.size,0,none⟩) (l.length+1) G) (w.drew.alloc (.cells R 97)):=λty=>by
  have h:=Lib.run_append_grow_zeros w 28 3 ty 97 i0 _ .i64 .i64 Tryz.underlying28 Tryz.underlying3 hi0 hz0 (some ⟨g,0,none⟩) i cap _ hold (l.length+1 - i) Aaa Aaa Aaa Aaa (by rw [hz2];omega) (by rw [hz2,hik];exact growslice_fits hroom (by omega))
  rw [hik,<-hG,<-hR] at h
  rw [hkk]
  exact h
 have hGn:l.length+1<=G:=by rw [hG];exact grownCap_ge w _ _ _
 have hGm:G<=maxLen:=by rw [hG];exact grownCap_le_maxLen w (l.length+1) cap 97 Aah
 have hRs:R.size=G*4:=by
  rw [hR];simp only[Array.size_append,List.size_toArray,size_zeroCells,htl];show i*4+(l.length+1 - i)*4+(G - (l.length+1))*4=_
  omega
 have hRl:R.toList.length=G*4:=by rw [show R.toList.length=R.size from Array.length_toList,hRs]
 have hRt:R.toList.take (i*4)=GR.flat aM (l.take i):=by
  rw [hR];simp only[Array.toList_append,List.append_assoc];rw [<-htl,List.take_left]
 clear hR hG hold hkk hik
 have hA:∀W:World,W.heap=(w.drew.alloc (.cells R 97)).heap->∀ty dl dc,dl=l.length+1 - i->(Builtin.copy_ #[28,28] ty #[.slice (some ⟨w.heap.size,i*4,none⟩) dl dc,.slice (some ⟨vb,0,none⟩) 1 1]).run Tryz.prog W= .ok (goInt 1) (W.setRow w.heap.size (yJ R.toList i q).toArray):=λW hW ty dl dc e1=>by
  subst e1
  have hb:W.heap[w.heap.size]?=some (.cells R 97 (0,0)):=by rw [hW];exact heap_alloc_new w.drew _
  have hvb:W.heap[vb]?=w.heap[vb]?:=by rw [hW];exact Below.heap_alloc w.drew _ vb hvw
  have h:=mQ (P:=Tryz.prog) W 28 28 ty 97 4 w.heap.size (i*4) (l.length+1 - i) dc ⟨vb,0,none⟩ 1 1 R 97 (aM q) Tryz.underlying28 JU hb (by show 4=_;simp only[Nat.min_def];split<;>omega)
   (λj v hj=>by
    rw [World.cell?_of_block (w:=w) (a:=(⟨vb,0,none⟩:Addr).add j) (by rw [Addr.add_lit];exact hvb)]
    exact World.news_of_block hv j v hj)
   (by show i*4+4<=_;omega) (nX q)
  rw [show Nat.min 1 (l.length+1 - i)=1 by simp only[Nat.min_def];split<;>omega] at h
  exact h
 have hBb:∀W:World,W.heap=((w.drew.alloc (.cells R 97)).setRow w.heap.size (yJ R.toList i q).toArray).heap->W.heap[w.heap.size]?=some (.cells (yJ R.toList i q).toArray 97 (0,0))/\W.heap[g]?=w.heap[g]?:=λW hW=>by
  rw [hW]
  exact⟨setRow_heap _ w.heap.size R _ 97 _ (heap_alloc_new w.drew _),(setRow_other _ w.heap.size g _ Aaa).trans (Below.heap_alloc w.drew _ g hgw)⟩
 have hB:∀W:World,W.heap=((w.drew.alloc (.cells R 97)).setRow w.heap.size (yJ R.toList i q).toArray).heap->∀ty dl sl dc sc,dl=l.length - i->sl=l.length - i->(Builtin.copy_ #[28,28] ty #[.slice (some ⟨w.heap.size,(i+1)*4,none⟩) dl dc,.slice (some ⟨g,i*4,none⟩) sl sc]).run Tryz.prog W= .ok (goInt ((l.length - i:Nat):Int)) (W.setRow w.heap.size (Fv R.toList l i q).toArray):=λW hW ty dl sl dc sc e1 e2=>by
  subst e1 e2
  obtain⟨hb1,hb2⟩:=hBb W hW
  have h:=mQ (P:=Tryz.prog) W 28 28 ty 97 4 w.heap.size ((i+1)*4) (l.length - i) dc ⟨g,i*4,none⟩ (l.length - i) sc (yJ R.toList i q).toArray 97 (GR.flat aM (l.drop i)) Tryz.underlying28 JU hb1 (by rw [hdl];simp only[Nat.min_def];split<;>omega)
   (λj v hj=>by
    rw [Addr.add_lit]
    exact hcell W hb2 _ v (by rw [<-List.getElem?_drop,(qG l i Aaa).2];exact hj))
   (by rw [hdl,List.size_toArray,NK _ _ _ Aaa];omega) (λv hv=>iy _ v hv)
  rw [hdl,show Nat.min (l.length - i) (l.length - i)=l.length - i by simp only[Nat.min_def];split<;>omega] at h
  exact h
 have Bg:=Hq (show∀W:World,W.heap=((w.drew.alloc (.cells R 97)).setRow w.heap.size (yJ R.toList i q).toArray).heap->W.os=w.os->W.tape=w.tape->W.output=w.output->
  (W.setRow w.heap.size (Fv R.toList l i q).toArray).heap[w.heap.size]?=some (.cells (Fv R.toList l i q).toArray 97 (0,0))/\w.grownBy (W.setRow w.heap.size (Fv R.toList l i q).toArray) none from λW hW e1 e2 e3=>by
  obtain⟨hb1,hb2⟩:=hBb W hW
  refine⟨setRow_heap _ w.heap.size _ _ 97 _ hb1,⟨e1,e2,e3,?_,λk hk _=>?_⟩⟩
  .have:=congrArg Array.size hW;simp at this ⊢;omega
  .refine(setRow_other _ w.heap.size k _ Aaa).trans ?_;rw [hW]
   exact(setRow_other _ w.heap.size k _ Aaa).trans (Below.heap_alloc w.drew _ k hk))
 have Gw:=Hq (show(Fv R.toList l i q).toArray.size=G*4 by rw [List.size_toArray,Zt _ _ _ _ hi Aaa,hRl]);have Q8:=Hq (show(Fv R.toList l i q).toArray.toList.take ((l.length+1)*4)=_ from UG R.toList l i q hi Aaa hRt);open aor in exact acV
def oD (l:List Rq) (i:Nat) (q:Rq):List Rq:=l.take i++q::l.drop i
theorem MQ (l:List Rq) (i:Nat) (q:Rq) (hi:i<=l.length):(oD l i q).length=l.length+1:=by
 unfold oD;rw [List.length_append,List.length_cons,List.length_take,List.length_drop];omega
theorem agj (B:Nat) (a:Option Addr) (cap i:Nat) (l:List Rq) (q:Rq) (vb:Nat) (w:World) (hl:l.length<=1000) (hi:i<=l.length) (hB:B<=w.heap.size) (ho:w.ownsRow B 97 4 (.slice a l.length cap) l.length (GR.flat aM l)) (hv:w.heap[vb]?=some (.cells (dX q.no q.k q.n q.s) 97 (0,0))) (hne:∀x,(Value.slice a l.length cap).ownBlock=some x->vb≠x):
 Calls Tryz.prog 189 #[.slice a l.length cap,.int .i64 i,.slice (some ⟨vb,0,none⟩) 1 1] w (IC w B (.slice a l.length cap) (oD l i q)):=by
 have hlen:=MQ l i q hi;by_cases he:i=l.length
 .subst he;have e:oD l l.length q=l++[q]:=by unfold oD;rw [List.take_length,List.drop_length]
  rw [e];exact Qh B a cap l q vb w hl hB ho hv
 have hi2:i < l.length:=Aaa
 have hfl:(GR.flat aM (oD l i q)).length=(l.length+1)*4:=by rw [gT,hlen]
 open apd in exact WV
abbrev zQ:List Value:=[.int .i64 0,.string ⟨#[]⟩,.int .i64 0,.int .i64 0]
theorem Fw (w:World) (ty:TypeId) (g o c:Nat) (cur:Array Value) (hg:w.heap[g]?=some (.cells cur 97 (0,0))) (hfit:o+4<=cur.size):
 (Builtin.clear_ #[28] ty #[.slice (some ⟨g,o,none⟩) 1 c]).run Tryz.prog w= .ok (.tuple #[]) (w.setRow g (cur.toList.take o++zQ++cur.toList.drop (o+4)).toArray):=by
 have hst:=run_storeCells_at Tryz.prog g o 97 zQ 0 cur w hg (by simpa using hfit) (by intro u hu;simp only[zQ,List.mem_cons,List.not_mem_nil,or_false] at hu;rcases hu with rfl|rfl|rfl|rfl<;>rfl);have hzc:(Builtin.zeroCells (Value.cells (.agg (dX 0 ⟨#[]⟩ 0 0))) 1).toList=zQ:=Aab
 have h1:(Builtin.clear_ #[28] ty #[.slice (some ⟨g,o,none⟩) 1 c]).run Tryz.prog w=((storeCells ⟨g,o,none⟩ zQ).run Tryz.prog w).andThen λ_ w'=> .ok (.tuple #[]) w':=by
  simp[Builtin.clear_,run_underlying Tryz.underlying28];rw [hzc]
 rw [h1,hst];rfl
def yK (cur:List Value) (l:List Rq):List Value:=cur.take (0*4)++GR.flat aM (l.drop 1)++cur.drop (0*4+(GR.flat aM (l.drop 1)).length)
def JQ (cur:List Value) (l:List Rq):List Value:=(yK cur l).take ((l.length - 1)*4)++zQ++(yK cur l).drop ((l.length - 1)*4+4)
theorem DX (cur:List Value) (l:List Rq) (h2:2<=l.length) (hc:l.length*4<=cur.length):(yK cur l).length=cur.length:=by
 unfold yK;exact aef
theorem Zu (cur:List Value) (l:List Rq) (h2:2<=l.length) (hc:l.length*4<=cur.length):(JQ cur l).length=cur.length:=by
 have h1:=DX cur l h2 hc;unfold JQ;exact ael
theorem UH (cur:List Value) (l:List Rq) (h2:2<=l.length) (hc:l.length*4<=cur.length):(JQ cur l).take ((l.length - 1)*4)=GR.flat aM (l.drop 1):=by
 have h1:=DX cur l h2 hc;have hd:(GR.flat aM (l.drop 1)).length=(l.length - 1)*4:=Acb
 unfold JQ;rw [List.append_assoc,List.take_append_of_le_length (by rw [List.length_take,h1];omega),List.take_take,Nat.min_self];unfold yK;rw [Nat.zero_mul,List.take_zero,List.nil_append,<-hd,List.take_left]
theorem Tz (g cap:Nat) (l:List Rq) (w:World) (cur:Array Value) (h2:2<=l.length) (hl:l.length<=1000) (hnc:l.length<=cap) (hcm:cap<=maxLen) (hblk:w.heap[g]?=some (.cells cur 97 (0,0))) (hcs:cur.size=cap*4) (htake:cur.toList.take (l.length*4)=GR.flat aM l):
 Calls Tryz.prog 190 #[.slice (some ⟨g,0,none⟩) l.length cap,.int .i64 0,.int .i64 1] w λe w'=>
  e= .returned (.slice (some ⟨g,0,none⟩) (l.length - 1) cap)/\w'.heap[g]?=some (.cells (JQ cur.toList l).toArray 97 (0,0))/\w.grownBy w' (some g):=by
 obtain⟨i0,hi0,hz0,hz1,hz2⟩:=info_parts Qg;have Ye:cur.toList.length=cap*4:=Adq
 have hdl:(GR.flat aM (l.drop 1)).length=(l.length - 1)*4:=Acb
 have hap:∀W:World,W.heap[g]?=some (.cells cur 97 (0,0))->∀ty dc,(Builtin.append_ #[28,28] ty #[.slice (some ⟨g,0,none⟩) 0 cap,.slice (some ⟨g,4,none⟩) (l.length - 1) dc]).run Tryz.prog W= .ok (.slice (some ⟨g,0,none⟩) (l.length - 1) cap) (W.setRow g (yK cur.toList l).toArray):=λW hW ty dc=>by
  have h:=run_append_room (P:=Tryz.prog) W 28 ty 97 i0 Tryz.underlying28 hi0 g 0 cap cur hW ⟨g,4,none⟩ (l.length - 1) dc (GR.flat aM (l.drop 1)) (by rw [hz1,hdl])
   (λj v hj=>by
    rw [Addr.add_lit]
    have h1:(GR.flat aM l)[4+j]?=some v:=by
     have:=(qG l 1 Aaa).2;rw [<-List.getElem?_drop];rw [show(4:Nat)=1*4 from rfl,this];exact hj
    rw [<-htake,List.getElem?_take] at h1
    split at h1
    .have h2:W.cell? ⟨g,4+j,none⟩=cur[4+j]?:=cell_of_row W g (4+j) cur 97 (0,0) hW;rw [h2,<-Array.getElem?_toList];exact h1
    .cases h1)
   (λv hv=>iy _ v hv) Aaa (by rw [hz1,hdl,hcs];omega)
  rw [hz1,Nat.zero_add] at h
  exact h
 have hcl:∀W:World,W.heap[g]?=some (.cells cur 97 (0,0))->∀ty c,(Builtin.clear_ #[28] ty #[.slice (some ⟨g,(l.length - 1)*4,none⟩) 1 c]).run Tryz.prog (W.setRow g (yK cur.toList l).toArray)= .ok (.tuple #[]) ((W.setRow g (yK cur.toList l).toArray).setRow g (JQ cur.toList l).toArray):=λW hW ty c=>by
  have hb:(W.setRow g (yK cur.toList l).toArray).heap[g]?=some (.cells (yK cur.toList l).toArray 97 (0,0)):=setRow_heap W g cur _ 97 _ hW
  exact Fw _ ty g ((l.length - 1)*4) c (yK cur.toList l).toArray hb (by rw [List.size_toArray,DX _ _ h2 Aaa,Ye];omega)
 have Bg:=Hq (show∀W:World,Ge w W->((W.setRow g (yK cur.toList l).toArray).setRow g (JQ cur.toList l).toArray).heap[g]?=some (.cells (JQ cur.toList l).toArray 97 (0,0))/\w.grownBy ((W.setRow g (yK cur.toList l).toArray).setRow g (JQ cur.toList l).toArray) (some g) from λW hW=>
  ⟨setRow_heap _ g (yK cur.toList l).toArray _ 97 _ (setRow_heap W g cur _ 97 _ (ay hblk hW)),⟨hW.os,hW.tape,hW.output,by have:=hW.size;simpa using this,λk hl hk=>((setRow_other _ g k _ (λe=>hk Aan)).trans (setRow_other W g k _ (λe=>hk Aan))).trans (hW.block k hl)⟩⟩)
 have aeX:=Hq hblk;have afT:l.length - (l.length - 1)=1:=Aaa
 have mixed:Tryz.prog.follows .mixedOrders=true:=Aab
 have hc63:cap<=9223372036854775807:=Acf
 have hb1:(1:Int)<=(l.length:Int):=Aaa
 have hb2:¬(cap=1):=Aaa
 have hb3:¬(l.length=0):=Aaa
 have hnn:(l.length:Int) - 1=((l.length - 1:Nat):Int):=Aaa
 clear hcs hblk htake hcm Ye hdl hi0 hz0 hz1 hz2;go_enter Tryz.func190,Tryz.ntmps190
 go_wp2_with fail;refine bE 6 Aab ?_;show eF _ _ _ _ _ 8 (Array.replicate 8 false) _ _
 refine tk [0,1,2,3,4,5] ?_;iterate 6 (refine qA (λK hK=>?_);go_simp;refine hK _ ?_;clear hK K)
 refine iN ?_;refine aT Aab (λx hx=>?_);have awe:=hap x (ay aeX hx);have awf:=hcl x (ay aeX hx);have Z4:=Hq (Bg x hx);clear hap hcl hx Bg aeX;refine aF 6 rfl Aab Aad ?_;refine Lib.wp_append_run x (.tmp 22) (.tmp 25) 28 28 rfl (.slice (some ⟨g,0,none⟩) 0 cap) (.slice (some ⟨g,4,none⟩) (l.length - 1) (cap - 1)) Aak Aak _ _ (awe _ _) ?_;refine aF 7 rfl Aab Aad ?_;go_simp;refine wpAny_done Aab ?_;go_simp;go_wp2_with (simp only[afT,awf])
 go_ret;exact⟨rfl,Z4.1,Z4.2⟩
theorem afR (B:Nat) (a:Option Addr) (cap:Nat) (l:List Rq) (w:World) (h2:2<=l.length) (hl:l.length<=1000) (ho:w.ownsRow B 97 4 (.slice a l.length cap) l.length (GR.flat aM l)):
 Calls Tryz.prog 190 #[.slice a l.length cap,.int .i64 0,.int .i64 1] w (IC w B (.slice a l.length cap) (l.drop 1)):=by
 have hlen:(l.drop 1).length=l.length - 1:=by rw [List.length_drop]
 open ape in exact WV
theorem WK.reqPut {w0 w w6:World} {wb:Nat} {n:Nd} {A:bH} {G:aV} {c:Nat->Nat} {v:Value} {L:List Mg} {a6:Option Addr} {c6:Nat} {l:List Rq} (h:WK w0 w wb n A G c v L)
 (hown:w6.ownsRow w0.heap.size 97 4 (.slice a6 l.length c6) l.length (GR.flat aM l)) (hg:w.grownBy w6 (Value.slice A.r n.reqs.length A.cr).ownBlock) (hv:∀x,(Value.slice a6 l.length c6).ownBlock=some x->(Value.slice A.r n.reqs.length A.cr).ownBlock=some x\/w.heap.size<=x):
 w6.heap[wb]?=some (.cells (Kz n A v) 74 (0,0))/\WK w0 (w6.setCell ⟨wb,8,none⟩ (.slice a6 l.length c6)) wb (dS n l) ⟨A.k,A.p,A.o,A.s,a6,A.ck,A.cp,A.co,A.cs,c6⟩ G (newC w.heap.size 6 c) v L:=by
 have h1:=h.recol (c':=newC w.heap.size 6 c) (λx hx=>dW hx);have hk1:KC (newC w.heap.size 6 c) 6 w w6:=KC.grown hg h1.no.cr;have hblk:=hk1.obj h1.blk (by rw [h1.cw];omega);have hkeep:=hk1.below h1.keep h1.no.lo Aaa h1.keep.size;have hk2:KC (newC w.heap.size 6 c) 8 w6 (w6.setCell ⟨wb,8,none⟩ (.slice a6 l.length c6)):=KC.set h1.cw
 have hcr:∀x,(Value.slice a6 l.length c6).ownBlock=some x->newC w.heap.size 6 c x=6:=λx hx=>by
  rcases hv x hx with hx'|hx'
  .exact h1.no.cr x hx'
  .exact aS hx'
 have hno:=h1.no;refine⟨hblk,hk2.below hkeep hno.lo Aaa hkeep.size,?_,⟨?_,?_,?_,?_,?_,hno.lo,hno.ck,hno.cp,hno.co,hno.c4,hno.ci,hcr,hno.ni⟩,?_,h1.cm,h1.cw⟩
 .exact bC hblk 8 (.slice a6 l.length c6)
 .exact hk2.w (hk1.w hno.k hno.ck Aaa) hno.ck Aaa
 .exact hk2.w (hk1.w hno.p hno.cp Aaa) hno.cp Aaa
 .exact hk2.own (hk1.own hno.o hno.co Aaa) hno.co Aaa
 .exact aej
 .exact hk2.own hown hcr Aaa
 .exact hk2.own (hk1.own h1.m h1.cm Aaa) h1.cm Aaa
theorem WK.oldPut {w0 w:World} {wb:Nat} {n:Nd} {A:bH} {G:aV} {c:Nat->Nat} {v:Value} {L:List Mg} (h:WK w0 w wb n A G c v L) (y:Int):WK w0 (w.setCell ⟨wb,7,none⟩ (.int .i64 y)) wb (lJ n y) A G c v L:=by
 have hk2:KC c 8 w (w.setCell ⟨wb,7,none⟩ (.int .i64 y)):=KC.set h.cw;have hno:=h.no.kc hk2 Aaa;exact⟨hk2.below h.keep h.no.lo Aaa h.keep.size,bC h.blk 7 (.int .i64 y),⟨hno.k,hno.p,hno.o,hno.s,hno.r,hno.lo,hno.ck,hno.cp,hno.co,hno.c4,hno.ci,hno.cr,hno.ni⟩,hk2.own h.m h.cm Aaa,h.cm,h.cw⟩
def AP (n:Nd) (q:Rq) (i:Nat):Nd:=if 30 < (oD n.reqs i q).length then dS (lJ n ((oD n.reqs i q).headD default).no) ((oD n.reqs i q).drop 1) else dS n (oD n.reqs i q)
theorem Dw (n:Nd) (q:Rq):AP n q (dP n.reqs q.no)=lF n q:=by
 unfold AP lF;rw [show oD n.reqs (dP n.reqs q.no) q=rV n.reqs q from rfl,List.drop_one]
theorem ZW (w0 w:World) (wb:Nat) (n:Nd) (A:bH) (G:aV) (c:Nat->Nat) (v:Value) (L:List Mg) (q:Rq) (i:Nat) (hi:i<=n.reqs.length) (hr:n.reqs.length<=30) (h:WK w0 w wb n A G c v L):
 Calls Tryz.prog 166 #[.pointer (some ⟨wb,0,none⟩),.agg (dX q.no q.k q.n q.s),.int .i64 i] w λe w'=>e= .returned (.tuple #[])/\∃A' G' c',WK w0 w' wb (AP n q i) A' G' c' v L:=by
 have HW:=Hq h;have HW1:=Hq (h.step (aj w (.cells (dX q.no q.k q.n q.s) 97)));have xD:=Hq (heap_alloc_new w (.cells (dX q.no q.k q.n q.s) 97));clear h;have hlen:=MQ n.reqs i q hi;obtain⟨c0,c1,c2,c3,c4,c5,c6,c7,c8,c9⟩:=iQ HW1.blk;obtain⟨p0,p1,p2,p3⟩:=fQ xD;have hwl:=aA HW.blk;have hne:wb≠w.heap.size:=Aaa
 go_enter Tryz.func166,Tryz.ntmps166
 go_upto_region 1 with fail;have y8:=cell_regrown c8;have z0:=cell_regrown p0;have z1:=cell_regrown p1;have z2:=cell_regrown p2;have z3:=cell_regrown p3;clear c0 c1 c2 c3 c4 c5 c6 c7 c8 c9 p0 p1 p2 p3;refine jN Aab ?_;show sU _ _ _ _ 14 (Array.replicate 14 false) _ _
 open alu in exact afu
theorem Sl {w0 w x:World} {wb:Nat} {n:Nd} {A:bH} {G:aV} {c:Nat->Nat} {v:Value} {L:List Mg} (h:WK w0 w wb n A G c v L) {r:List Pu×Bool} {a:Option Addr} {cp g:Nat} (hb:aX w x) (hg:w.heap.size<=g) (hp:vK x a g r.1):
 Calls Tryz.prog 162 #[.pointer (some ⟨wb,0,none⟩),.slice a r.1.length cp,.bool r.2] x λe w'=>e= .returned (.bool r.2)/\∃A' G' c',WK w0 w' wb (if r.2=true then setPu n r.1 else n) A' G' c' v L/\(∀k o,k≠wb->x.heap[k]?=some o->w'.heap[k]?=some o)/\∀k,k < w.heap.size->c' k=c k:=by
 obtain⟨l,b⟩:=r;cases b with
 |false=>
  refine(Ag wb a l.length cp x).mono ?_
  rintro e w' ⟨rfl,rfl⟩
  exact⟨rfl,A,G,c,h.step hb,λ_ _ _ h=>h,λ_ _=>rfl⟩
 |true=>
  refine(wU wb n A v a l.length cp x (h.step hb).blk).mono ?_
  rintro e w' ⟨rfl,rfl⟩
  exact⟨rfl,_,_,_,h.setPu hb hp (λy hy=>by rw [(gH hy).1];exact hg),λk o hk ho=>by rw [Below.heap_setCell _ _ _ _ hk];exact ho,λk hk=>dW hk⟩
theorem atM {w:World} {g:Nat} {a b d e u:Value} {t:TypeId} (h:w.heap[g]?=some (.cells #[a,b,d,e] t (0,0))):(w.setCell ⟨g,3,none⟩ u).heap[g]?=some (.cells #[a,b,d,u] t (0,0)):=bC h 3 u
theorem OM (w0 w:World) (wb:Nat) (n:Nd) (A:bH) (G:aV) (c:Nat->Nat) (v:Value) (L:List Mg) (o:gM) (hc:o.no<=n.old) (h:WK w0 w wb n A G c v L):Calls Tryz.prog 108 #[.pointer (some ⟨wb,0,none⟩),jB o] w λe w'=>e= .returned (.int .i64 (fF n o.no o.k o.n).2)/\∃A' G' c',WK w0 w' wb (fF n o.no o.k o.n).1 A' G' c' v L:=by
 have hR:fF n o.no o.k o.n=(n,2):=if_pos hc;rw [hR];have hd:decide (o.no<=n.old)=true:=decide_eq_true hc;clear hR;open avm in exact Po
theorem Vd (w0 w:World) (wb:Nat) (n:Nd) (A:bH) (G:aV) (c:Nat->Nat) (v:Value) (L:List Mg) (o:gM) (E:Nat->Addr) (hz:fu n 1048576) (hok:gP n=true) (hk:o.k.size<=1048576) (h0:0<=o.no) (h1:o.no<=1000000000) (hc:¬o.no<=n.old) (hf:mH n.reqs o.no=false) (h:WK w0 w wb n A G c v L) (he:iG w0 E):Calls Tryz.prog 108 #[.pointer (some ⟨wb,0,none⟩),jB o] w λe w'=>e= .returned (.int .i64 (fF n o.no o.k o.n).2)/\∃A' G' c',WK w0 w' wb (fF n o.no o.k o.n).1 A' G' c' v L:=by
 have hR:fF n o.no o.k o.n=(lF (setPu n (dx n.pu o.k 0 (-1) 1 o.n).1) ⟨o.no,o.k,o.n,if (dx n.pu o.k 0 (-1) 1 o.n).2=true then 0 else 1⟩,if (dx n.pu o.k 0 (-1) 1 o.n).2=true then 0 else 1):=by
  unfold fF;rw [if_neg hc,if_neg Abk]
 have HAD:=Hq hR;generalize fF n o.no o.k o.n=RES at *;have hd:decide (o.no<=n.old)=false:=decide_eq_false hc;have tO:=Hq (λw1 c1 (hw:WK w0 w1 wb n A G c1 v L)=>Kr w0 w1 wb n A G c1 v L o.no hok h0 h1 hw);rw [hf] at tO;have hlen:=(iM hok).2.1;have hil:=vB n.reqs o.no;have HRL:=Hq (show(dx n.pu o.k 0 (-1) 1 o.n).2=false->(dx n.pu o.k 0 (-1) 1 o.n).1=n.pu from GH);have HKI:=Hq (fun(l:List Pu) s=>Dw (setPu n l) ⟨o.no,o.k,o.n,s⟩);have HKN:=Hq (λs=>Dw n ⟨o.no,o.k,o.n,s⟩);dsimp only[setPu] at HKI;dsimp only at HKN;have SS:=Hq (λw1 c1 (hw:WK w0 w1 wb n A G c1 v L)=>Uj A.p A.cp n.pu o.k o.n E w1 hz.p hz.pk hk hw.no.p.at (he.below hw.keep));unfold jD at SS;generalize dx n.pu o.k 0 (-1) 1 o.n=r at *;generalize dP n.reqs o.no=i at *;clear hR h0 h1 hok hf he hz;open avl in exact Po
theorem av2 (no:Int) (k k':ByteArray) (n n' s s':Int) (W:World):(binOp .eql 97 (.agg (dX no k n s)) (.agg (dX no k' n' s'))).run Tryz.prog W= .ok (.bool ((k.toList == k'.toList)&&decide (n=n')&&decide (s=s'))) W:=by
 by_cases h1:k.toList == k'.toList<;>by_cases h2:n=n'<;>by_cases h3:s=s'<;>simp[go_sem,h1,h2,h3]
theorem OL (w0 w:World) (wb:Nat) (n:Nd) (A:bH) (G:aV) (c:Nat->Nat) (v:Value) (L:List Mg) (o:gM) (hok:gP n=true) (hk:o.k.size<=1048576) (h0:0<=o.no) (h1:o.no<=1000000000) (hc:¬o.no<=n.old) (hf:mH n.reqs o.no=true) (h:WK w0 w wb n A G c v L):Calls Tryz.prog 108 #[.pointer (some ⟨wb,0,none⟩),jB o] w λe w'=>e= .returned (.int .i64 (fF n o.no o.k o.n).2)/\∃A' G' c',WK w0 w' wb (fF n o.no o.k o.n).1 A' G' c' v L:=by
 open anl in exact WE
theorem abB (w0 w:World) (wb:Nat) (n:Nd) (A:bH) (G:aV) (c:Nat->Nat) (v:Value) (L:List Mg) (o:gM) (E:Nat->Addr) (hz:fu n 1048576) (hok:gP n=true) (hk:o.k.size<=1048576) (h0:0<=o.no) (h1:o.no<=1000000000) (h:WK w0 w wb n A G c v L) (he:iG w0 E):Calls Tryz.prog 108 #[.pointer (some ⟨wb,0,none⟩),jB o] w λe w'=>e= .returned (.int .i64 (fF n o.no o.k o.n).2)/\∃A' G' c',WK w0 w' wb (fF n o.no o.k o.n).1 A' G' c' v L:=by
 by_cases hc:o.no<=n.old
 .exact OM w0 w wb n A G c v L o hc h
 cases hf:mH n.reqs o.no with
 |false=>exact Vd w0 w wb n A G c v L o E hz hok hk h0 h1 hc hf h he
 |true=>exact OL w0 w wb n A G c v L o hok hk h0 h1 hc hf h
end Go.Proofs.YtacgbldlonoaaaaGreatDoor
