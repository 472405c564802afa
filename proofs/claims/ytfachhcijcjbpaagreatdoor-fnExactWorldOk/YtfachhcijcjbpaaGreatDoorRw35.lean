/- Parts. -/
import Derived.Test.YtfachhcijcjbpaaGreatDoorRw34
namespace Go.Proofs.YtfachhcijcjbpaaGreatDoor
open Go.Proofs.Tryz
set_option maxHeartbeats 8000000
set_option maxRecDepth 100000
open Go.RowKit
open Mth
variable (w0 w:World) (wb:Nat) (n:Nd) (A:bg) (G:aR) (c:Nat->Nat) (v:Value) (L:List Mg) (o:gD)
def AV (R:List Value) (i:Nat) (q:Rq):List Value:=R.take (i*4)++aM q++R.drop (i*4+4)
def Jh (R:List Value) (l:List Rq) (i:Nat) (q:Rq):List Value:=(AV R i q).take ((i+1)*4)++GR.flat aM (l.drop i)++(AV R i q).drop ((i+1)*4+(l.length - i)*4)
theorem Ri (R:List Value) (i:Nat) (q:Rq) (h:i*4+4<=R.length):(AV R i q).length=R.length:=by
 unfold AV;rw [aEC,aEC,aEX,aE8];show _+4+_=_
 omega
theorem adt (R:List Value) (l:List Rq) (i:Nat) (q:Rq) (hi:i < l.length) (h:(l.length+1)*4<=R.length):(Jh R l i q).length=R.length:=by
 have h1:=Ri R i q Aaa;unfold Jh;rw [aEC,aEC,gN,aEX,aE8,aE8,h1];omega
theorem Zj (R:List Value) (l:List Rq) (i:Nat) (q:Rq) (hi:i < l.length) (_h:(l.length+1)*4<=R.length) (ht:R.take (i*4)=GR.flat aM (l.take i)):(Jh R l i q).take ((l.length+1)*4)=GR.flat aM (l.take i++q::l.drop i):=by
 have ht2:(GR.flat aM (l.take i)).length=i*4:=by rw [gN,aEX,aFH Aaa]
 have hd:(GR.flat aM (l.drop i)).length=(l.length - i)*4:=Abu
 have e1:(AV R i q).take ((i+1)*4)=GR.flat aM (l.take i)++aM q:=by
  unfold AV;rw [ht];have:(i+1)*4=(GR.flat aM (l.take i)++aM q).length:=by rw [aEC,ht2];show _=_+4;omega
  rw [this,aGh]
 unfold Jh;rw [e1,GR.flat_append,GR.flat_cons,<-aFa];rw [show(l.length+1)*4=(GR.flat aM (l.take i)++aM q++GR.flat aM (l.drop i)).length by rw [aEC,aEC,hd,ht2];show _=_+4+_;omega,aGh]
theorem Qx (g cap i:Nat) (l:List Rq) (q:Rq) (vb:Nat) (w:World) (cur:Array Value) (hl:l.length<=1000) (hi:i < l.length) (hnc:l.length<=cap) (hroom:cap < l.length+1) (hblk:w.heap[g]?=some (.cells cur 133 (0,0))) (htake:cur.toList.take (l.length*4)=GR.flat aM l) (hv:w.heap[vb]?=some (.cells (gJ q.no q.k q.n q.s) 133 (0,0))):
 Calls prog 247 #[.slice (some ⟨g,0,none⟩) l.length cap,.int .i64 i,.slice (some ⟨vb,0,none⟩) 1 1] w λe w'=>
  ∃G cur',e= .returned (.slice (some ⟨w.heap.size,0,none⟩) (l.length+1) G)/\l.length+1<=G/\G<=maxLen/\w'.heap[w.heap.size]?=some (.cells cur' 133 (0,0))/\cur'.size=G*4/\cur'.toList.take ((l.length+1)*4)=GR.flat aM (l.take i++q::l.drop i)/\w.grownBy w' none:=by
 obtain⟨i0,hi0,hz0,hz1,hz2⟩:=aEY Uy;have hgw:=ay hblk;have hvw:=ay hv;have hdl:(GR.flat aM (l.drop i)).length=(l.length - i)*4:=Abu
 have htl:(GR.flat aM (l.take i)).length=i*4:=by rw [gN,aEX,aFH Aaa]
 have hcell:∀(W:World),W.heap[g]?=w.heap[g]?->∀j v,(GR.flat aM l)[j]?=some v->W.cell? ⟨g,j,none⟩=some v:=λW hW j v hj=>by
  have h2:W.cell? ⟨g,j,none⟩=cur[j]?:=aEz W g j cur 133 (0,0) (hW.trans hblk)
  rw [<-htake,List.getElem?_take] at hj
  split at hj
  .rw [h2,<-Array.getElem?_toList];exact hj
  .cases hj
 have hold:(Builtin.firstCells i0.size i (.slice (some ⟨g,0,none⟩) i cap)).run prog w.drew= .ok (GR.flat aM (l.take i)).toArray w.drew:=by
  rw [hz1]
  exact run_firstCells_some w.drew 4 i ⟨g,0,none⟩ i cap _ htl (λj v hj=>by
   rw [aGo,aFq]
   refine hcell w.drew rfl j v ?_
   rw [<-(rW l i Aaa).1,List.getElem?_take] at hj
   split at hj
   .exact hj
   .cases hj)
 have hkk:(l.length:Int)+1 - (i:Int)=((l.length+1 - i:Nat):Int):=Aaa
 have hik:i+(l.length+1 - i)=l.length+1:=Aaa
 obtain⟨G,hG⟩:∃G,G=grownCap w (l.length+1) cap 133:=⟨_,rfl⟩;obtain⟨R,hR⟩:∃R:Array Value,R=(GR.flat aM (l.take i)).toArray++Builtin.zeroCells (Value.cells (.agg (gJ 0 ByteArray.empty 0 0))) (l.length+1 - i)++Builtin.zeroCells (Value.cells (.agg (gJ 0 ByteArray.empty 0 0))) (G - (l.length+1)):=⟨_,rfl⟩
 have hrz:∀ty,(Builtin.append_ #[51,3] ty #[.slice (some ⟨g,0,none⟩) i cap,.int .i64 ((l.length:Int)+1 - (i:Int))]).run prog w= .ok (.slice (some ⟨w.heap.size,0,none⟩) (l.length+1) G) (w.drew.alloc (.cells R 133)):=λty=>by
  have h:=Lib.run_append_grow_zeros w 51 3 ty 133 i0 _ .i64 .i64 underlying51 underlying3 hi0 hz0 (some ⟨g,0,none⟩) i cap _ hold (l.length+1 - i) Aaa Aaa Aaa Aaa Aat (by rw [hz2,hik];exact growslice_fits hroom (by omega))
  rw [hik,<-hG,<-hR] at h
  rw [hkk]
  exact h
 have hGn:l.length+1<=G:=by rw [hG];exact grownCap_ge w _ _ _
 have hGm:G<=maxLen:=by rw [hG];exact grownCap_le_maxLen w (l.length+1) cap 133 Aai
 have hRs:R.size=G*4:=by
  rw [hR];simp only[Array.size_append,aFs,size_zeroCells,htl];show i*4+(l.length+1 - i)*4+(G - (l.length+1))*4=_
  omega
 have hRl:R.toList.length=G*4:=by rw [show R.toList.length=R.size from aE9,hRs]
 have hRt:R.toList.take (i*4)=GR.flat aM (l.take i):=by
  rw [hR];simp only[aGf,aFa];rw [<-htl,aGh]
 clear hR hG hold hkk hik
 have hA:∀W:World,W.heap=(w.drew.alloc (.cells R 133)).heap->∀ty dl dc,dl=l.length+1 - i->(Builtin.copy_ #[51,51] ty #[.slice (some ⟨w.heap.size,i*4,none⟩) dl dc,.slice (some ⟨vb,0,none⟩) 1 1]).run prog W= .ok (goInt 1) (W.setRow w.heap.size (AV R.toList i q).toArray):=λW hW ty dl dc e1=>by
  subst e1
  have hb:W.heap[w.heap.size]?=some (.cells R 133 (0,0)):=by rw [hW];exact aEu w.drew _
  have hvb:W.heap[vb]?=w.heap[vb]?:=by rw [hW];exact aEI w.drew _ vb hvw
  have h:=nJ (P:=prog) W 51 51 ty 133 4 w.heap.size (i*4) (l.length+1 - i) dc ⟨vb,0,none⟩ 1 1 R 133 (aM q) underlying51 Nz hb (by show 4=_;simp only[Nat.min_def];split<;>omega)
   (λj v hj=>by
    rw [aE6 (w:=w) (a:=(⟨vb,0,none⟩:Addr).add j) (by rw [aGo];exact hvb)]
    exact aFj hv j v hj)
   (by show i*4+4<=_;omega) (wK q)
  rw [show Nat.min 1 (l.length+1 - i)=1 by simp only[Nat.min_def];split<;>omega] at h
  exact h
 have hBb:∀W:World,W.heap=((w.drew.alloc (.cells R 133)).setRow w.heap.size (AV R.toList i q).toArray).heap->W.heap[w.heap.size]?=some (.cells (AV R.toList i q).toArray 133 (0,0))/\W.heap[g]?=w.heap[g]?:=λW hW=>by
  rw [hW]
  exact⟨setRow_heap _ w.heap.size R _ 133 _ (aEu w.drew _),(setRow_other _ w.heap.size g _ Aaa).trans (aEI w.drew _ g hgw)⟩
 have hB:∀W:World,W.heap=((w.drew.alloc (.cells R 133)).setRow w.heap.size (AV R.toList i q).toArray).heap->∀ty dl sl dc sc,dl=l.length - i->sl=l.length - i->(Builtin.copy_ #[51,51] ty #[.slice (some ⟨w.heap.size,(i+1)*4,none⟩) dl dc,.slice (some ⟨g,i*4,none⟩) sl sc]).run prog W= .ok (goInt ((l.length - i:Nat):Int)) (W.setRow w.heap.size (Jh R.toList l i q).toArray):=λW hW ty dl sl dc sc e1 e2=>by
  subst e1 e2
  obtain⟨hb1,hb2⟩:=hBb W hW
  have h:=nJ (P:=prog) W 51 51 ty 133 4 w.heap.size ((i+1)*4) (l.length - i) dc ⟨g,i*4,none⟩ (l.length - i) sc (AV R.toList i q).toArray 133 (GR.flat aM (l.drop i)) underlying51 Nz hb1 (by rw [hdl];simp only[Nat.min_def];split<;>omega)
   (λj v hj=>by
    rw [aGo]
    exact hcell W hb2 _ v (by rw [<-List.getElem?_drop,(rW l i Aaa).2];exact hj))
   (by rw [hdl,aFs,Ri _ _ _ Aaa];omega) (λv hv=>mV _ v hv)
  rw [hdl,show Nat.min (l.length - i) (l.length - i)=l.length - i by simp only[Nat.min_def];split<;>omega] at h
  exact h
 have Ew:=Hq (show∀W:World,W.heap=((w.drew.alloc (.cells R 133)).setRow w.heap.size (AV R.toList i q).toArray).heap->W.os=w.os->W.tape=w.tape->W.output=w.output->
  (W.setRow w.heap.size (Jh R.toList l i q).toArray).heap[w.heap.size]?=some (.cells (Jh R.toList l i q).toArray 133 (0,0))/\w.grownBy (W.setRow w.heap.size (Jh R.toList l i q).toArray) none from λW hW e1 e2 e3=>by
  obtain⟨hb1,hb2⟩:=hBb W hW
  refine⟨setRow_heap _ w.heap.size _ _ 133 _ hb1,⟨e1,e2,e3,?_,λk hk _=>?_⟩⟩
  .have:=congrArg Array.size hW;simp at this ⊢;omega
  .refine(setRow_other _ w.heap.size k _ Aaa).trans ?_;rw [hW]
   exact(setRow_other _ w.heap.size k _ Aaa).trans (aEI w.drew _ k hk))
 have tX:=Hq (show(Jh R.toList l i q).toArray.size=G*4 by rw [aFs,adt _ _ _ _ hi Aaa,hRl]);have OZ:=Hq (show(Jh R.toList l i q).toArray.toList.take ((l.length+1)*4)=_ from Zj R.toList l i q hi Aaa hRt);open as5 in exact agV
def qd (l:List Rq) (i:Nat) (q:Rq):List Rq:=l.take i++q::l.drop i
theorem Qs (l:List Rq) (i:Nat) (q:Rq) (hi:i<=l.length):(qd l i q).length=l.length+1:=by
 unfold qd;rw [aEC,aFU,aEX,aE8];omega
theorem ali (B:Nat) (a:Option Addr) (cap i:Nat) (l:List Rq) (q:Rq) (vb:Nat) (w:World) (hl:l.length<=1000) (hi:i<=l.length) (hB:B<=w.heap.size) (ho:w.ownsRow B 133 4 (.slice a l.length cap) l.length (GR.flat aM l)) (hv:w.heap[vb]?=some (.cells (gJ q.no q.k q.n q.s) 133 (0,0))) (hne:∀x,(Value.slice a l.length cap).ownBlock=some x->vb≠x):
 Calls prog 247 #[.slice a l.length cap,.int .i64 i,.slice (some ⟨vb,0,none⟩) 1 1] w (Lr w B (.slice a l.length cap) (qd l i q)):=by
 have hlen:=Qs l i q hi;by_cases he:i=l.length
 .subst he;have e:qd l l.length q=l++[q]:=by unfold qd;rw [aEW,List.drop_length]
  rw [e];exact Uz B a cap l q vb w hl hB ho hv
 have hi2:i < l.length:=Aaa
 have hfl:(GR.flat aM (qd l i q)).length=(l.length+1)*4:=by rw [gN,hlen]
 open atQ in exact aaR
abbrev zQ:List Value:=[.int .i64 0,.string ⟨#[]⟩,.int .i64 0,.int .i64 0]
theorem Ji (w:World) (ty:TypeId) (g o c:Nat) (cur:Array Value) (hg:w.heap[g]?=some (.cells cur 133 (0,0))) (hfit:o+4<=cur.size):
 (Builtin.clear_ #[51] ty #[.slice (some ⟨g,o,none⟩) 1 c]).run prog w= .ok (.tuple #[]) (w.setRow g (cur.toList.take o++zQ++cur.toList.drop (o+4)).toArray):=by
 have hst:=run_storeCells_at prog g o 133 zQ 0 cur w hg (by simpa using hfit) (by intro u hu;simp only[zQ,aET,aFt,or_false] at hu;rcases hu with rfl|rfl|rfl|rfl<;>rfl);have hzc:(Builtin.zeroCells (Value.cells (.agg (gJ 0 ⟨#[]⟩ 0 0))) 1).toList=zQ:=Aab
 have h1:(Builtin.clear_ #[51] ty #[.slice (some ⟨g,o,none⟩) 1 c]).run prog w=((storeCells ⟨g,o,none⟩ zQ).run prog w).andThen λ_ w'=> .ok (.tuple #[]) w':=by
  simp[Builtin.clear_,run_underlying underlying51];rw [hzc]
 rw [h1,hst];rfl
def AY (cur:List Value) (l:List Rq):List Value:=cur.take (0*4)++GR.flat aM (l.drop 1)++cur.drop (0*4+(GR.flat aM (l.drop 1)).length)
def Nv (cur:List Value) (l:List Rq):List Value:=(AY cur l).take ((l.length - 1)*4)++zQ++(AY cur l).drop ((l.length - 1)*4+4)
theorem Gi (cur:List Value) (l:List Rq) (h2:2<=l.length) (hc:l.length*4<=cur.length):(AY cur l).length=cur.length:=by
 unfold AY;exact aiQ
theorem adu (cur:List Value) (l:List Rq) (h2:2<=l.length) (hc:l.length*4<=cur.length):(Nv cur l).length=cur.length:=by
 have h1:=Gi cur l h2 hc;unfold Nv;exact aiX
theorem Zk (cur:List Value) (l:List Rq) (h2:2<=l.length) (hc:l.length*4<=cur.length):(Nv cur l).take ((l.length - 1)*4)=GR.flat aM (l.drop 1):=by
 have h1:=Gi cur l h2 hc;have hd:(GR.flat aM (l.drop 1)).length=(l.length - 1)*4:=Abu
 unfold Nv;rw [aFa,List.take_append_of_le_length (by rw [aEX,h1];omega),aGg,Nat.min_self];unfold AY;rw [Nat.zero_mul,aGb,aFN,<-hd,aGh]
theorem Ye (g cap:Nat) (l:List Rq) (w:World) (cur:Array Value) (h2:2<=l.length) (hl:l.length<=1000) (hnc:l.length<=cap) (hcm:cap<=maxLen) (hblk:w.heap[g]?=some (.cells cur 133 (0,0))) (hcs:cur.size=cap*4) (htake:cur.toList.take (l.length*4)=GR.flat aM l):
 Calls prog 248 #[.slice (some ⟨g,0,none⟩) l.length cap,.int .i64 0,.int .i64 1] w λe w'=>
  e= .returned (.slice (some ⟨g,0,none⟩) (l.length - 1) cap)/\w'.heap[g]?=some (.cells (Nv cur.toList l).toArray 133 (0,0))/\w.grownBy w' (some g):=by
 obtain⟨i0,hi0,hz0,hz1,hz2⟩:=aEY Uy;have ab4:cur.toList.length=cap*4:=Acx
 have hdl:(GR.flat aM (l.drop 1)).length=(l.length - 1)*4:=Abu
 have hap:∀W:World,W.heap[g]?=some (.cells cur 133 (0,0))->∀ty dc,(Builtin.append_ #[51,51] ty #[.slice (some ⟨g,0,none⟩) 0 cap,.slice (some ⟨g,4,none⟩) (l.length - 1) dc]).run prog W= .ok (.slice (some ⟨g,0,none⟩) (l.length - 1) cap) (W.setRow g (AY cur.toList l).toArray):=λW hW ty dc=>by
  have h:=run_append_room (P:=prog) W 51 ty 133 i0 underlying51 hi0 g 0 cap cur hW ⟨g,4,none⟩ (l.length - 1) dc (GR.flat aM (l.drop 1)) (by rw [hz1,hdl])
   (λj v hj=>by
    rw [aGo]
    have h1:(GR.flat aM l)[4+j]?=some v:=by
     have:=(rW l 1 Aaa).2;rw [<-List.getElem?_drop];rw [show(4:Nat)=1*4 from rfl,this];exact hj
    rw [<-htake,List.getElem?_take] at h1
    split at h1
    .have h2:W.cell? ⟨g,4+j,none⟩=cur[4+j]?:=aEz W g (4+j) cur 133 (0,0) hW;rw [h2,<-Array.getElem?_toList];exact h1
    .cases h1)
   (λv hv=>mV _ v hv) Aaa (by rw [hz1,hdl,hcs];omega)
  rw [hz1,aFq] at h
  exact h
 have hcl:∀W:World,W.heap[g]?=some (.cells cur 133 (0,0))->∀ty c,(Builtin.clear_ #[51] ty #[.slice (some ⟨g,(l.length - 1)*4,none⟩) 1 c]).run prog (W.setRow g (AY cur.toList l).toArray)= .ok (.tuple #[]) ((W.setRow g (AY cur.toList l).toArray).setRow g (Nv cur.toList l).toArray):=λW hW ty c=>by
  have hb:(W.setRow g (AY cur.toList l).toArray).heap[g]?=some (.cells (AY cur.toList l).toArray 133 (0,0)):=setRow_heap W g cur _ 133 _ hW
  exact Ji _ ty g ((l.length - 1)*4) c (AY cur.toList l).toArray hb (by rw [aFs,Gi _ _ h2 Aaa,ab4];omega)
 have Ew:=Hq (show∀W:World,Ge w W->((W.setRow g (AY cur.toList l).toArray).setRow g (Nv cur.toList l).toArray).heap[g]?=some (.cells (Nv cur.toList l).toArray 133 (0,0))/\w.grownBy ((W.setRow g (AY cur.toList l).toArray).setRow g (Nv cur.toList l).toArray) (some g) from λW hW=>
  ⟨setRow_heap _ g (AY cur.toList l).toArray _ 133 _ (setRow_heap W g cur _ 133 _ (aj hblk hW)),⟨hW.os,hW.tape,hW.output,by have:=hW.size;simpa using this,λk hl hk=>((setRow_other _ g k _ (λe=>hk Aao)).trans (setRow_other W g k _ (λe=>hk Aao))).trans (hW.block k hl)⟩⟩)
 have ajE:=Hq hblk;have akJ:l.length - (l.length - 1)=1:=Aaa
 have mixed:prog.follows .mixedOrders=true:=Aab
 have hc63:cap<=9223372036854775807:=Aby
 have hb1:(1:Int)<=(l.length:Int):=Aaa
 have hb2:¬(cap=1):=Aaa
 have hb3:¬(l.length=0):=Aaa
 have hnn:(l.length:Int) - 1=((l.length - 1:Nat):Int):=Aaa
 clear hcs hblk htake hcm ab4 hdl hi0 hz0 hz1 hz2;go_in
 go_wp2_with fail;refine rg 6 Ge 8 ?_;refine tk [0,1,2,3,4,5] ?_;iterate 6 (refine iy (λK hK=>?_);go_simp;refine hK _ ?_;clear hK K)
 refine jm ?_;refine aS Aab (λx hx=>?_);have aBN:=hap x (aj ajE hx);have aBP:=hcl x (aj ajE hx);have HF2:=Hq (Ew x hx);clear hap hcl hx Ew ajE;refine an 6 ?_;refine aGx x (.tmp 22) (.tmp 25) 51 51 rfl (.slice (some ⟨g,0,none⟩) 0 cap) (.slice (some ⟨g,4,none⟩) (l.length - 1) (cap - 1)) Aan Aan _ _ (aBN _ _) ?_;refine an 7 ?_;go_simp;refine ad ?_;go_simp;go_wp2_with (simp only[akJ,aBP])
 go_ret;exact⟨rfl,HF2.1,HF2.2⟩
theorem akA (B:Nat) (a:Option Addr) (cap:Nat) (l:List Rq) (w:World) (h2:2<=l.length) (hl:l.length<=1000) (ho:w.ownsRow B 133 4 (.slice a l.length cap) l.length (GR.flat aM l)):
 Calls prog 248 #[.slice a l.length cap,.int .i64 0,.int .i64 1] w (Lr w B (.slice a l.length cap) (l.drop 1)):=by
 have hlen:(l.drop 1).length=l.length - 1:=by rw [aE8]
 open atS in exact aaR
theorem afS {w0 w x:World} {wb:Nat} {n:Nd} {A:bg} {G:aR} {c:Nat->Nat} {v:Value} {L:List Mg} (h:WK w0 w wb n A G c v L) {r:List Pu×Bool} {a:Option Addr} {cp g:Nat} (hb:aG w x) (hg:w.heap.size<=g) (hp:xC x a g r.1):
 Calls prog 219 #[.pointer (some ⟨wb,0,none⟩),.slice a r.1.length cp,.bool r.2] x λe w'=>e= .returned (.bool r.2)/\∃A' G' c',WK w0 w' wb (if r.2=true then setPu n r.1 else n) A' G' c' v L/\A'.r=A.r:=by
 obtain⟨l,b⟩:=r;cases b with
 |false=>
  refine(Cw wb a l.length cp x).mono ?_;rintro e w' ⟨rfl,rfl⟩;exact⟨rfl,A,G,c,h.step hb,rfl⟩
 |true=>
  refine(zk wb n A v a l.length cp x (h.step hb).blk).mono ?_;rintro e w' ⟨rfl,rfl⟩;exact⟨rfl,_,_,_,h.setPu hb hp (λy hy=>by rw [(dz hy).1];exact hg),rfl⟩
theorem WK.reqRow {w0 w:World} {wb:Nat} {n:Nd} {A:bg} {G:aR} {c:Nat->Nat} {v:Value} {L:List Mg} (h:WK w0 w wb n A G c v L) (i:Nat) (hi:i < n.reqs.length):∃g,A.r=some ⟨g,0,none⟩/\g≠wb/\g < w.heap.size/\(w.cell? ⟨g,i*4,none⟩=some (.int .i64 n.reqs[i].no)/\w.cell? ⟨g,i*4+1,none⟩=some (.string n.reqs[i].k)/\w.cell? ⟨g,i*4+2,none⟩=some (.int .i64 n.reqs[i].n)/\w.cell? ⟨g,i*4+3,none⟩=some (.int .i64 n.reqs[i].s))/\w.frozen? ⟨g,i*4+3,none⟩=false:=by
 obtain⟨a,cp,g,he,hW,hlt,hown⟩:=GR.W.of_own bQ h.no.r;have hmem:g∈fp g n.reqs:=dH Aaa;obtain⟨ea,hg,hc,_,_,_,hf⟩:=GR.W.fourReq hW i hi;have hA:A.r=a:=by cases he;rfl
 refine⟨g,by rw [hA,ea],?_,hg,hc,hf⟩;intro hw;have h6:=h.no.cr g (hown g hmem);rw [hw,h.cw] at h6;cases h6
theorem WK.reqSet {w0 w:World} {wb:Nat} {n:Nd} {A:bg} {G:aR} {c:Nat->Nat} {v:Value} {L:List Mg} (h:WK w0 w wb n A G c v L) (i:Nat) (hi:i < n.reqs.length) (g:Nat) (hg:A.r=some ⟨g,0,none⟩):WK w0 (w.setCell ⟨g,i*4+3,none⟩ (.int .i64 2)) wb (eD n (n.reqs.set i (pz n.reqs[i]))) A G c v L:=by
 have ho:=h.no.r;have hcr:=h.no.cr;rw [hg] at ho hcr;have hc6:c g=6:=hcr g rfl;have hk:KC c 6 w (w.setCell ⟨g,i*4+3,none⟩ (.int .i64 2)):=KC.set hc6;have hno:=h.no;have hst:=(ho.stored (i*4+3) (.int .i64 2)).1;rw [PY 2 n.reqs i hi] at hst;have hlen:(n.reqs.set i (pz n.reqs[i])).length=n.reqs.length:=Aac
 refine⟨hk.below h.keep hno.lo Aaa h.keep.size,?_,⟨hk.w hno.k hno.ck Aaa,hk.w hno.p hno.cp Aaa,hk.own hno.o hno.co Aaa,hk.seen hno.s hno.c4 hno.ci Aaa Aaa,?_,hno.lo,hno.ck,hno.cp,hno.co,hno.c4,hno.ci,?_,hno.ni⟩,hk.own h.m h.cm Aaa,h.cm,h.cw⟩
 .have:=hk.obj h.blk (by rw [h.cw];omega);rw [this];show some (Obj.cells #[_,_,_,_,_,_,_,_,.slice A.r n.reqs.length A.cr,_] _ _)=some (Obj.cells #[_,_,_,_,_,_,_,_,.slice A.r (n.reqs.set i (pz n.reqs[i])).length A.cr,_] _ _)
  rw [hlen];rfl
 .show(w.setCell _ _).ownsRow _ _ _ (.slice A.r (n.reqs.set i (pz n.reqs[i])).length A.cr) (n.reqs.set i (pz n.reqs[i])).length (GR.flat aM (n.reqs.set i (pz n.reqs[i])))
  rw [hlen,hg];exact hst
 .show∀x,(Value.slice A.r (n.reqs.set i (pz n.reqs[i])).length A.cr).ownBlock=some x->_
  rw [hlen];exact h.no.cr
theorem Sy (hc:o.no<=n.old) (h:WK w0 w wb n A G c v L):Calls prog 206 #[.pointer (some ⟨wb,0,none⟩),jF o] w λe w'=>e= .returned (.int .i64 (aQ n o.no).2)/\∃A' G' c',WK w0 w' wb (aQ n o.no).1 A' G' c' v L:=by
 have hR:aQ n o.no=(n,2):=aER hc;rw [hR];have hd:decide (o.no<=n.old)=true:=aEy hc;clear hR;open aAv in exact Yk9
theorem VF (hok:gQ n=true) (h0:0<=o.no) (h1:o.no<=1000000000) (hc:¬o.no<=n.old) (hf:nW n.reqs o.no=false) (h:WK w0 w wb n A G c v L):Calls prog 206 #[.pointer (some ⟨wb,0,none⟩),jF o] w λe w'=>e= .returned (.int .i64 (aQ n o.no).2)/\∃A' G' c',WK w0 w' wb (aQ n o.no).1 A' G' c' v L:=by
 have hR:aQ n o.no=(n,1):=by unfold aQ;rw [aEG hc,aER hf]
 rw [hR];have hd:decide (o.no<=n.old)=false:=aEw hc;have xB:=Hq (λw1 (hw:WK w0 w1 wb n A G c v L)=>Oi w0 w1 wb n A G c v L o.no hok h0 h1 hw);rw [hf] at xB;clear hR h0 h1 hok hf;open aAu in exact Yk9
theorem JK (hok:gQ n=true) (h0:0<=o.no) (h1:o.no<=1000000000) (hc:¬o.no<=n.old) (hf:nW n.reqs o.no=true) (hs:(n.reqs.getD (dV n.reqs o.no) default).s=1) (h:WK w0 w wb n A G c v L):Calls prog 206 #[.pointer (some ⟨wb,0,none⟩),jF o] w λe w'=>e= .returned (.int .i64 (aQ n o.no).2)/\∃A' G' c',WK w0 w' wb (aQ n o.no).1 A' G' c' v L:=by
 have hR:aQ n o.no=(n,1):=by unfold aQ;rw [aEG hc,aEG Abf];rw [aER hs]
 exact aw1
theorem Sw (hok:gQ n=true) (h0:0<=o.no) (h1:o.no<=1000000000) (hc:¬o.no<=n.old) (hf:nW n.reqs o.no=true) (hs:(n.reqs.getD (dV n.reqs o.no) default).s=2) (h:WK w0 w wb n A G c v L):Calls prog 206 #[.pointer (some ⟨wb,0,none⟩),jF o] w λe w'=>e= .returned (.int .i64 (aQ n o.no).2)/\∃A' G' c',WK w0 w' wb (aQ n o.no).1 A' G' c' v L:=by
 have hR:aQ n o.no=(n,0):=by unfold aQ;rw [aEG hc,aEG Abf];rw [aEG Aaa,aER hs]
 exact aw1
theorem aad (E:Nat->Addr) (hz:eH n 1048576) (hok:gQ n=true) (h0:0<=o.no) (h1:o.no<=1000000000) (hc:¬o.no<=n.old) (hf:nW n.reqs o.no=true) (hs:(n.reqs.getD (dV n.reqs o.no) default).s=0) (h:WK w0 w wb n A G c v L) (he:gX w0 E):Calls prog 206 #[.pointer (some ⟨wb,0,none⟩),jF o] w λe w'=>e= .returned (.int .i64 (aQ n o.no).2)/\∃A' G' c',WK w0 w' wb (aQ n o.no).1 A' G' c' v L:=by
 have hR:aQ n o.no=(if (cK n.pu (n.reqs.getD (dV n.reqs o.no) default).k 0 1 (-1) (n.reqs.getD (dV n.reqs o.no) default).n).2=true then
  (eD (setPu n (cK n.pu (n.reqs.getD (dV n.reqs o.no) default).k 0 1 (-1) (n.reqs.getD (dV n.reqs o.no) default).n).1) (n.reqs.set (dV n.reqs o.no) (pz (n.reqs.getD (dV n.reqs o.no) default))),0) else(n,1)):=by
  unfold aQ
  rw [aEG hc,aEG Abf,aEG Aaa,aEG Aaa]
 rw [hR];have hd:decide (o.no<=n.old)=false:=aEw hc;open ar5 in exact aaI
theorem aae (w0 w:World) (wb:Nat) (n:Nd) (A:bg) (G:aR) (c:Nat->Nat) (v:Value) (L:List Mg) (o:gD) (E:Nat->Addr) (hz:eH n 1048576) (hok:gQ n=true) (h0:0<=o.no) (h1:o.no<=1000000000) (h:WK w0 w wb n A G c v L) (he:gX w0 E):Calls prog 206 #[.pointer (some ⟨wb,0,none⟩),jF o] w λe w'=>e= .returned (.int .i64 (aQ n o.no).2)/\∃A' G' c',WK w0 w' wb (aQ n o.no).1 A' G' c' v L:=by
 by_cases hc:o.no<=n.old
 .exact Sy w0 w wb n A G c v L o hc h
 cases hf:nW n.reqs o.no with
 |false=>exact VF w0 w wb n A G c v L o hok h0 h1 hc hf h
 |true=>
  have hil:=((nX n.reqs o.no).1 hf).1;have hgd:n.reqs.getD (dV n.reqs o.no) default=n.reqs[dV n.reqs o.no]:=by rw [aE7,aEB hil];rfl
  obtain⟨_,_,_,_,b1,b2⟩:=jS ((iL hok).2.2.1 _ (aEL hil));rw [<-hgd] at b1 b2;by_cases s1:(n.reqs.getD (dV n.reqs o.no) default).s=1
  .exact JK w0 w wb n A G c v L o hok h0 h1 hc hf s1 h
  by_cases s2:(n.reqs.getD (dV n.reqs o.no) default).s=2
  .exact Sw w0 w wb n A G c v L o hok h0 h1 hc hf s2 h
  .exact aad w0 w wb n A G c v L o E hz hok h0 h1 hc hf Aaa h he
end Go.Proofs.YtfachhcijcjbpaaGreatDoor
