/- Parts. -/
import Derived.Test.YtbolgdleijjgfaaGreatDoorRs38
namespace Go.Proofs.YtbolgdleijjgfaaGreatDoor
open Go.Proofs.Tryz
set_option maxHeartbeats 8000000
set_option maxRecDepth 100000
open Go.RowKit
open Mth
variable (w0 w:World) (wb:Nat) (n:Nd) (A:bq) (G:aK) (c:Nat->Nat) (v:Value) (L:List Mg)
def Bf (R:List Value) (i:Nat) (q:Rq):List Value:=R.take (i*4)++aL q++R.drop (i*4+4)
def Ja (R:List Value) (l:List Rq) (i:Nat) (q:Rq):List Value:=(Bf R i q).take ((i+1)*4)++GR.flat aL (l.drop i)++(Bf R i q).drop ((i+1)*4+(l.length - i)*4)
theorem QW (R:List Value) (i:Nat) (q:Rq) (h:i*4+4<=R.length):(Bf R i q).length=R.length:=by
 unfold Bf;rw [aER,aER,aFf,aFt];show _+4+_=_
 omega
theorem ado (R:List Value) (l:List Rq) (i:Nat) (q:Rq) (hi:i < l.length) (h:(l.length+1)*4<=R.length):(Ja R l i q).length=R.length:=by
 have h1:=QW R i q Aaa;unfold Ja;rw [aER,aER,gW,aFf,aFt,aFt,h1];omega
theorem Zk (R:List Value) (l:List Rq) (i:Nat) (q:Rq) (hi:i < l.length) (_h:(l.length+1)*4<=R.length) (ht:R.take (i*4)=GR.flat aL (l.take i)):(Ja R l i q).take ((l.length+1)*4)=GR.flat aL (l.take i++q::l.drop i):=by
 have ht2:(GR.flat aL (l.take i)).length=i*4:=by rw [gW,aFf,aFU Aaa]
 have hd:(GR.flat aL (l.drop i)).length=(l.length - i)*4:=Abw
 have e1:(Bf R i q).take ((i+1)*4)=GR.flat aL (l.take i)++aL q:=by
  unfold Bf;rw [ht];have:(i+1)*4=(GR.flat aL (l.take i)++aL q).length:=by rw [aER,ht2];show _=_+4;omega
  rw [this,aGC]
 unfold Ja;rw [e1,GR.flat_append,GR.flat_cons,<-aFr];rw [show(l.length+1)*4=(GR.flat aL (l.take i)++aL q++GR.flat aL (l.drop i)).length by rw [aER,aER,hd,ht2];show _=_+4+_;omega,aGC]
theorem Qh (g cap i:Nat) (l:List Rq) (q:Rq) (vb:Nat) (w:World) (cur:Array Value) (hl:l.length<=1000) (hi:i < l.length) (hnc:l.length<=cap) (hroom:cap < l.length+1) (hblk:w.heap[g]?=some (.cells cur 148 (0,0))) (htake:cur.toList.take (l.length*4)=GR.flat aL l) (hv:w.heap[vb]?=some (.cells (gT q.no q.k q.n q.s) 148 (0,0))):
 Calls prog 242 #[.slice (some ⟨g,0,none⟩) l.length cap,.int .i64 i,.slice (some ⟨vb,0,none⟩) 1 1] w λe w'=>
  ∃G cur',e= .returned (.slice (some ⟨w.heap.size,0,none⟩) (l.length+1) G)/\l.length+1<=G/\G<=maxLen/\w'.heap[w.heap.size]?=some (.cells cur' 148 (0,0))/\cur'.size=G*4/\cur'.toList.take ((l.length+1)*4)=GR.flat aL (l.take i++q::l.drop i)/\w.grownBy w' none:=by
 obtain⟨i0,hi0,hz0,hz1,hz2⟩:=aFm Uf;have hgw:=ay hblk;have hvw:=ay hv;have hdl:(GR.flat aL (l.drop i)).length=(l.length - i)*4:=Abw
 have htl:(GR.flat aL (l.take i)).length=i*4:=by rw [gW,aFf,aFU Aaa]
 have hcell:∀(W:World),W.heap[g]?=w.heap[g]?->∀j v,(GR.flat aL l)[j]?=some v->W.cell? ⟨g,j,none⟩=some v:=λW hW j v hj=>by
  have h2:W.cell? ⟨g,j,none⟩=cur[j]?:=aEW W g j cur 148 (0,0) (hW.trans hblk)
  rw [<-htake,List.getElem?_take] at hj
  split at hj
  .rw [h2,<-Array.getElem?_toList];exact hj
  .cases hj
 have hold:(Builtin.firstCells i0.size i (.slice (some ⟨g,0,none⟩) i cap)).run prog w.drew= .ok (GR.flat aL (l.take i)).toArray w.drew:=by
  rw [hz1]
  exact run_firstCells_some w.drew 4 i ⟨g,0,none⟩ i cap _ htl (λj v hj=>by
   rw [aGH,aFz]
   refine hcell w.drew rfl j v ?_
   rw [<-(sK l i Aaa).1,List.getElem?_take] at hj
   split at hj
   .exact hj
   .cases hj)
 have hkk:(l.length:Int)+1 - (i:Int)=((l.length+1 - i:Nat):Int):=Aaa
 have hik:i+(l.length+1 - i)=l.length+1:=Aaa
 obtain⟨G,hG⟩:∃G,G=grownCap w (l.length+1) cap 148:=⟨_,rfl⟩;obtain⟨R,hR⟩:∃R:Array Value,R=(GR.flat aL (l.take i)).toArray++Builtin.zeroCells (Value.cells (.agg (gT 0 ByteArray.empty 0 0))) (l.length+1 - i)++Builtin.zeroCells (Value.cells (.agg (gT 0 ByteArray.empty 0 0))) (G - (l.length+1)):=⟨_,rfl⟩
 have hrz:∀ty,(Builtin.append_ #[37,3] ty #[.slice (some ⟨g,0,none⟩) i cap,.int .i64 ((l.length:Int)+1 - (i:Int))]).run prog w= .ok (.slice (some ⟨w.heap.size,0,none⟩) (l.length+1) G) (w.drew.alloc (.cells R 148)):=λty=>by
  have h:=Lib.run_append_grow_zeros w 37 3 ty 148 i0 _ .i64 .i64 underlying37 underlying3 hi0 hz0 (some ⟨g,0,none⟩) i cap _ hold (l.length+1 - i) Aaa Aaa Aaa Aaa Abd (by rw [hz2,hik];exact growslice_fits hroom (by omega))
  rw [hik,<-hG,<-hR] at h
  rw [hkk]
  exact h
 have hGn:l.length+1<=G:=by rw [hG];exact grownCap_ge w _ _ _
 have hGm:G<=maxLen:=by rw [hG];exact grownCap_le_maxLen w (l.length+1) cap 148 Aaj
 have hRs:R.size=G*4:=by
  rw [hR];simp only[Array.size_append,aFH,size_zeroCells,htl];show i*4+(l.length+1 - i)*4+(G - (l.length+1))*4=_
  omega
 have hRl:R.toList.length=G*4:=by rw [show R.toList.length=R.size from aFu,hRs]
 have hRt:R.toList.take (i*4)=GR.flat aL (l.take i):=by
  rw [hR];simp only[aGy,aFr];rw [<-htl,aGC]
 clear hR hG hold hkk hik
 have hA:∀W:World,W.heap=(w.drew.alloc (.cells R 148)).heap->∀ty dl dc,dl=l.length+1 - i->(Builtin.copy_ #[37,37] ty #[.slice (some ⟨w.heap.size,i*4,none⟩) dl dc,.slice (some ⟨vb,0,none⟩) 1 1]).run prog W= .ok (goInt 1) (W.setRow w.heap.size (Bf R.toList i q).toArray):=λW hW ty dl dc e1=>by
  subst e1
  have hb:W.heap[w.heap.size]?=some (.cells R 148 (0,0)):=by rw [hW];exact aEK w.drew _
  have hvb:W.heap[vb]?=w.heap[vb]?:=by rw [hW];exact aEZ w.drew _ vb hvw
  have h:=nR (P:=prog) W 37 37 ty 148 4 w.heap.size (i*4) (l.length+1 - i) dc ⟨vb,0,none⟩ 1 1 R 148 (aL q) underlying37 Nk hb (by show 4=_;simp only[Nat.min_def];split<;>omega)
   (λj v hj=>by
    rw [aFq (w:=w) (a:=(⟨vb,0,none⟩:Addr).add j) (by rw [aGH];exact hvb)]
    exact aFA hv j v hj)
   (by show i*4+4<=_;omega) (xu q)
  rw [show Nat.min 1 (l.length+1 - i)=1 by simp only[Nat.min_def];split<;>omega] at h
  exact h
 have hBb:∀W:World,W.heap=((w.drew.alloc (.cells R 148)).setRow w.heap.size (Bf R.toList i q).toArray).heap->W.heap[w.heap.size]?=some (.cells (Bf R.toList i q).toArray 148 (0,0))/\W.heap[g]?=w.heap[g]?:=λW hW=>by
  rw [hW]
  exact⟨setRow_heap _ w.heap.size R _ 148 _ (aEK w.drew _),(setRow_other _ w.heap.size g _ Aaa).trans (aEZ w.drew _ g hgw)⟩
 have hB:∀W:World,W.heap=((w.drew.alloc (.cells R 148)).setRow w.heap.size (Bf R.toList i q).toArray).heap->∀ty dl sl dc sc,dl=l.length - i->sl=l.length - i->(Builtin.copy_ #[37,37] ty #[.slice (some ⟨w.heap.size,(i+1)*4,none⟩) dl dc,.slice (some ⟨g,i*4,none⟩) sl sc]).run prog W= .ok (goInt ((l.length - i:Nat):Int)) (W.setRow w.heap.size (Ja R.toList l i q).toArray):=λW hW ty dl sl dc sc e1 e2=>by
  subst e1 e2
  obtain⟨hb1,hb2⟩:=hBb W hW
  have h:=nR (P:=prog) W 37 37 ty 148 4 w.heap.size ((i+1)*4) (l.length - i) dc ⟨g,i*4,none⟩ (l.length - i) sc (Bf R.toList i q).toArray 148 (GR.flat aL (l.drop i)) underlying37 Nk hb1 (by rw [hdl];simp only[Nat.min_def];split<;>omega)
   (λj v hj=>by
    rw [aGH]
    exact hcell W hb2 _ v (by rw [<-List.getElem?_drop,(sK l i Aaa).2];exact hj))
   (by rw [hdl,aFH,QW _ _ _ Aaa];omega) (λv hv=>nC _ v hv)
  rw [hdl,show Nat.min (l.length - i) (l.length - i)=l.length - i by simp only[Nat.min_def];split<;>omega] at h
  exact h
 have zH:=Hq (show∀W:World,W.heap=((w.drew.alloc (.cells R 148)).setRow w.heap.size (Bf R.toList i q).toArray).heap->W.os=w.os->W.tape=w.tape->W.output=w.output->
  (W.setRow w.heap.size (Ja R.toList l i q).toArray).heap[w.heap.size]?=some (.cells (Ja R.toList l i q).toArray 148 (0,0))/\w.grownBy (W.setRow w.heap.size (Ja R.toList l i q).toArray) none from λW hW e1 e2 e3=>by
  obtain⟨hb1,hb2⟩:=hBb W hW
  refine⟨setRow_heap _ w.heap.size _ _ 148 _ hb1,⟨e1,e2,e3,?_,λk hk _=>?_⟩⟩
  .have:=congrArg Array.size hW;simp at this ⊢;omega
  .refine(setRow_other _ w.heap.size k _ Aaa).trans ?_;rw [hW]
   exact(setRow_other _ w.heap.size k _ Aaa).trans (aEZ w.drew _ k hk))
 have wC:=Hq (show(Ja R.toList l i q).toArray.size=G*4 by rw [aFH,ado _ _ _ _ hi Aaa,hRl]);have OI:=Hq (show(Ja R.toList l i q).toArray.toList.take ((l.length+1)*4)=_ from Zk R.toList l i q hi Aaa hRt);open atp in exact agS
def qB (l:List Rq) (i:Nat) (q:Rq):List Rq:=l.take i++q::l.drop i
theorem Qc (l:List Rq) (i:Nat) (q:Rq) (hi:i<=l.length):(qB l i q).length=l.length+1:=by
 unfold qB;rw [aER,aF9,aFf,aFt];omega
theorem alb (B:Nat) (a:Option Addr) (cap i:Nat) (l:List Rq) (q:Rq) (vb:Nat) (w:World) (hl:l.length<=1000) (hi:i<=l.length) (hB:B<=w.heap.size) (ho:w.ownsRow B 148 4 (.slice a l.length cap) l.length (GR.flat aL l)) (hv:w.heap[vb]?=some (.cells (gT q.no q.k q.n q.s) 148 (0,0))) (hne:∀x,(Value.slice a l.length cap).ownBlock=some x->vb≠x):
 Calls prog 242 #[.slice a l.length cap,.int .i64 i,.slice (some ⟨vb,0,none⟩) 1 1] w (K8 w B (.slice a l.length cap) (qB l i q)):=by
 have hlen:=Qc l i q hi;by_cases he:i=l.length
 .subst he;have e:qB l l.length q=l++[q]:=by unfold qB;rw [aFd,List.drop_length]
  rw [e];exact Ug B a cap l q vb w hl hB ho hv
 have hi2:i < l.length:=Aaa
 have hfl:(GR.flat aL (qB l i q)).length=(l.length+1)*4:=by rw [gW,hlen]
 open auo in exact aaP
abbrev zQ:List Value:=[.int .i64 0,.string ⟨#[]⟩,.int .i64 0,.int .i64 0]
theorem Jb (w:World) (ty:TypeId) (g o c:Nat) (cur:Array Value) (hg:w.heap[g]?=some (.cells cur 148 (0,0))) (hfit:o+4<=cur.size):
 (Builtin.clear_ #[37] ty #[.slice (some ⟨g,o,none⟩) 1 c]).run prog w= .ok (.tuple #[]) (w.setRow g (cur.toList.take o++zQ++cur.toList.drop (o+4)).toArray):=by
 have hst:=run_storeCells_at prog g o 148 zQ 0 cur w hg (by simpa using hfit) (by intro u hu;simp only[zQ,aE8,aFR,or_false] at hu;rcases hu with rfl|rfl|rfl|rfl<;>rfl);have hzc:(Builtin.zeroCells (Value.cells (.agg (gT 0 ⟨#[]⟩ 0 0))) 1).toList=zQ:=Aab
 have h1:(Builtin.clear_ #[37] ty #[.slice (some ⟨g,o,none⟩) 1 c]).run prog w=((storeCells ⟨g,o,none⟩ zQ).run prog w).andThen λ_ w'=> .ok (.tuple #[]) w':=by
  simp[Builtin.clear_,run_underlying underlying37];rw [hzc]
 rw [h1,hst];rfl
def Bg (cur:List Value) (l:List Rq):List Value:=cur.take (0*4)++GR.flat aL (l.drop 1)++cur.drop (0*4+(GR.flat aL (l.drop 1)).length)
def Ni (cur:List Value) (l:List Rq):List Value:=(Bg cur l).take ((l.length - 1)*4)++zQ++(Bg cur l).drop ((l.length - 1)*4+4)
theorem Gj (cur:List Value) (l:List Rq) (h2:2<=l.length) (hc:l.length*4<=cur.length):(Bg cur l).length=cur.length:=by
 unfold Bg;exact aiJ
theorem adp (cur:List Value) (l:List Rq) (h2:2<=l.length) (hc:l.length*4<=cur.length):(Ni cur l).length=cur.length:=by
 have h1:=Gj cur l h2 hc;unfold Ni;exact aiQ
theorem Zl (cur:List Value) (l:List Rq) (h2:2<=l.length) (hc:l.length*4<=cur.length):(Ni cur l).take ((l.length - 1)*4)=GR.flat aL (l.drop 1):=by
 have h1:=Gj cur l h2 hc;have hd:(GR.flat aL (l.drop 1)).length=(l.length - 1)*4:=Abw
 unfold Ni;rw [aFr,List.take_append_of_le_length (by rw [aFf,h1];omega),aGB,Nat.min_self];unfold Bg;rw [Nat.zero_mul,aGA,aF0,<-hd,aGC]
theorem Yd (g cap:Nat) (l:List Rq) (w:World) (cur:Array Value) (h2:2<=l.length) (hl:l.length<=1000) (hnc:l.length<=cap) (hcm:cap<=maxLen) (hblk:w.heap[g]?=some (.cells cur 148 (0,0))) (hcs:cur.size=cap*4) (htake:cur.toList.take (l.length*4)=GR.flat aL l):
 Calls prog 243 #[.slice (some ⟨g,0,none⟩) l.length cap,.int .i64 0,.int .i64 1] w λe w'=>
  e= .returned (.slice (some ⟨g,0,none⟩) (l.length - 1) cap)/\w'.heap[g]?=some (.cells (Ni cur.toList l).toArray 148 (0,0))/\w.grownBy w' (some g):=by
 obtain⟨i0,hi0,hz0,hz1,hz2⟩:=aFm Uf;have abY:cur.toList.length=cap*4:=Adj
 have hdl:(GR.flat aL (l.drop 1)).length=(l.length - 1)*4:=Abw
 have hap:∀W:World,W.heap[g]?=some (.cells cur 148 (0,0))->∀ty dc,(Builtin.append_ #[37,37] ty #[.slice (some ⟨g,0,none⟩) 0 cap,.slice (some ⟨g,4,none⟩) (l.length - 1) dc]).run prog W= .ok (.slice (some ⟨g,0,none⟩) (l.length - 1) cap) (W.setRow g (Bg cur.toList l).toArray):=λW hW ty dc=>by
  have h:=run_append_room (P:=prog) W 37 ty 148 i0 underlying37 hi0 g 0 cap cur hW ⟨g,4,none⟩ (l.length - 1) dc (GR.flat aL (l.drop 1)) (by rw [hz1,hdl])
   (λj v hj=>by
    rw [aGH]
    have h1:(GR.flat aL l)[4+j]?=some v:=by
     have:=(sK l 1 Aaa).2;rw [<-List.getElem?_drop];rw [show(4:Nat)=1*4 from rfl,this];exact hj
    rw [<-htake,List.getElem?_take] at h1
    split at h1
    .have h2:W.cell? ⟨g,4+j,none⟩=cur[4+j]?:=aEW W g (4+j) cur 148 (0,0) hW;rw [h2,<-Array.getElem?_toList];exact h1
    .cases h1)
   (λv hv=>nC _ v hv) Aaa (by rw [hz1,hdl,hcs];omega)
  rw [hz1,aFz] at h
  exact h
 have hcl:∀W:World,W.heap[g]?=some (.cells cur 148 (0,0))->∀ty c,(Builtin.clear_ #[37] ty #[.slice (some ⟨g,(l.length - 1)*4,none⟩) 1 c]).run prog (W.setRow g (Bg cur.toList l).toArray)= .ok (.tuple #[]) ((W.setRow g (Bg cur.toList l).toArray).setRow g (Ni cur.toList l).toArray):=λW hW ty c=>by
  have hb:(W.setRow g (Bg cur.toList l).toArray).heap[g]?=some (.cells (Bg cur.toList l).toArray 148 (0,0)):=setRow_heap W g cur _ 148 _ hW
  exact Jb _ ty g ((l.length - 1)*4) c (Bg cur.toList l).toArray hb (by rw [aFH,Gj _ _ h2 Aaa,abY];omega)
 have zH:=Hq (show∀W:World,Ge w W->((W.setRow g (Bg cur.toList l).toArray).setRow g (Ni cur.toList l).toArray).heap[g]?=some (.cells (Ni cur.toList l).toArray 148 (0,0))/\w.grownBy ((W.setRow g (Bg cur.toList l).toArray).setRow g (Ni cur.toList l).toArray) (some g) from λW hW=>
  ⟨setRow_heap _ g (Bg cur.toList l).toArray _ 148 _ (setRow_heap W g cur _ 148 _ (aj hblk hW)),⟨hW.os,hW.tape,hW.output,by have:=hW.size;simpa using this,λk hl hk=>((setRow_other _ g k _ (λe=>hk Aap)).trans (setRow_other W g k _ (λe=>hk Aap))).trans (hW.block k hl)⟩⟩)
 have ajs:=Hq hblk;have akF:l.length - (l.length - 1)=1:=Aaa
 have mixed:prog.follows .mixedOrders=true:=Aab
 have hc63:cap<=9223372036854775807:=Acb
 have hb1:(1:Int)<=(l.length:Int):=Aaa
 have hb2:¬(cap=1):=Aaa
 have hb3:¬(l.length=0):=Aaa
 have hnn:(l.length:Int) - 1=((l.length - 1:Nat):Int):=Aaa
 clear hcs hblk htake hcm abY hdl hi0 hz0 hz1 hz2;go_in
 go_wp2_with fail;refine rg 6 Ge 8 ?_;refine tk [0,1,2,3,4,5] ?_;iterate 6 (refine iO (λK hK=>?_);go_simp;refine hK _ ?_;clear hK K)
 refine jf ?_;refine aU Aab (λx hx=>?_);have aB7:=hap x (aj ajs hx);have aB9:=hcl x (aj ajs hx);have HF2:=Hq (zH x hx);clear hap hcl hx zH ajs;refine an 6 ?_;refine aGJ x (.tmp 22) (.tmp 25) 37 37 rfl (.slice (some ⟨g,0,none⟩) 0 cap) (.slice (some ⟨g,4,none⟩) (l.length - 1) (cap - 1)) Aao Aao _ _ (aB7 _ _) ?_;refine an 7 ?_;go_simp;refine ad ?_;go_simp;go_wp2_with (simp only[akF,aB9])
 go_ret;exact⟨rfl,HF2.1,HF2.2⟩
theorem akx (B:Nat) (a:Option Addr) (cap:Nat) (l:List Rq) (w:World) (h2:2<=l.length) (hl:l.length<=1000) (ho:w.ownsRow B 148 4 (.slice a l.length cap) l.length (GR.flat aL l)):
 Calls prog 243 #[.slice a l.length cap,.int .i64 0,.int .i64 1] w (K8 w B (.slice a l.length cap) (l.drop 1)):=by
 have hlen:(l.drop 1).length=l.length - 1:=by rw [aFt]
 open aup in exact aaP
theorem afR {w0 w x:World} {wb:Nat} {n:Nd} {A:bq} {G:aK} {c:Nat->Nat} {v:Value} {L:List Mg} (h:WK w0 w wb n A G c v L) {r:List Pu×Bool} {a:Option Addr} {cp g:Nat} (hb:aH w x) (hg:w.heap.size<=g) (hp:xV x a g r.1):
 Calls prog 214 #[.pointer (some ⟨wb,0,none⟩),.slice a r.1.length cp,.bool r.2] x λe w'=>e= .returned (.bool r.2)/\∃A' G' c',WK w0 w' wb (if r.2=true then setPu n r.1 else n) A' G' c' v L/\A'.r=A.r:=by
 obtain⟨l,b⟩:=r;cases b with
 |false=>
  refine(CJ wb a l.length cp x).mono ?_;rintro e w' ⟨rfl,rfl⟩;exact⟨rfl,A,G,c,h.step hb,rfl⟩
 |true=>
  refine(zn wb n A v a l.length cp x (h.step hb).blk).mono ?_;rintro e w' ⟨rfl,rfl⟩;exact⟨rfl,_,_,_,h.setPu hb hp (λy hy=>by rw [(cu hy).1];exact hg),rfl⟩
theorem WK.reqRow {w0 w:World} {wb:Nat} {n:Nd} {A:bq} {G:aK} {c:Nat->Nat} {v:Value} {L:List Mg} (h:WK w0 w wb n A G c v L) (i:Nat) (hi:i < n.reqs.length):∃g,A.r=some ⟨g,0,none⟩/\g≠wb/\g < w.heap.size/\(w.cell? ⟨g,i*4,none⟩=some (.int .i64 n.reqs[i].no)/\w.cell? ⟨g,i*4+1,none⟩=some (.string n.reqs[i].k)/\w.cell? ⟨g,i*4+2,none⟩=some (.int .i64 n.reqs[i].n)/\w.cell? ⟨g,i*4+3,none⟩=some (.int .i64 n.reqs[i].s))/\w.frozen? ⟨g,i*4+3,none⟩=false:=by
 obtain⟨a,cp,g,he,hW,hlt,hown⟩:=GR.W.of_own aV h.no.r;have hmem:g∈fp g n.reqs:=dB Aaa;obtain⟨ea,hg,hc,_,_,_,hf⟩:=GR.W.fourReq hW i hi;have hA:A.r=a:=by cases he;rfl
 refine⟨g,by rw [hA,ea],?_,hg,hc,hf⟩;intro hw;have h6:=h.no.cr g (hown g hmem);rw [hw,h.cw] at h6;cases h6
theorem WK.reqSet {w0 w:World} {wb:Nat} {n:Nd} {A:bq} {G:aK} {c:Nat->Nat} {v:Value} {L:List Mg} (h:WK w0 w wb n A G c v L) (i:Nat) (hi:i < n.reqs.length) (g:Nat) (hg:A.r=some ⟨g,0,none⟩):WK w0 (w.setCell ⟨g,i*4+3,none⟩ (.int .i64 2)) wb (eO n (n.reqs.set i (pX n.reqs[i]))) A G c v L:=by
 have ho:=h.no.r;have hcr:=h.no.cr;rw [hg] at ho hcr;have hc6:c g=6:=hcr g rfl;have hk:KC c 6 w (w.setCell ⟨g,i*4+3,none⟩ (.int .i64 2)):=KC.set hc6;have hno:=h.no;have hst:=(ho.stored (i*4+3) (.int .i64 2)).1;rw [Pq 2 n.reqs i hi] at hst;have hlen:(n.reqs.set i (pX n.reqs[i])).length=n.reqs.length:=Aac
 refine⟨hk.below h.keep hno.lo Aaa h.keep.size,?_,⟨hk.w hno.k hno.ck Aaa,hk.w hno.p hno.cp Aaa,hk.own hno.o hno.co Aaa,hk.seen hno.s hno.c4 hno.ci Aaa Aaa,?_,hno.lo,hno.ck,hno.cp,hno.co,hno.c4,hno.ci,?_,hno.ni⟩,hk.own h.m h.cm Aaa,h.cm,h.cw⟩
 .have:=hk.obj h.blk (by rw [h.cw];omega);rw [this];show some (Obj.cells #[_,_,_,_,_,_,_,_,.slice A.r n.reqs.length A.cr,_] _ _)=some (Obj.cells #[_,_,_,_,_,_,_,_,.slice A.r (n.reqs.set i (pX n.reqs[i])).length A.cr,_] _ _)
  rw [hlen];rfl
 .show(w.setCell _ _).ownsRow _ _ _ (.slice A.r (n.reqs.set i (pX n.reqs[i])).length A.cr) (n.reqs.set i (pX n.reqs[i])).length (GR.flat aL (n.reqs.set i (pX n.reqs[i])))
  rw [hlen,hg];exact hst
 .show∀x,(Value.slice A.r (n.reqs.set i (pX n.reqs[i])).length A.cr).ownBlock=some x->_
  rw [hlen];exact h.no.cr
theorem R5 (o:gJ) (hc:o.no<=n.old) (h:WK w0 w wb n A G c v L):Calls prog 201 #[.pointer (some ⟨wb,0,none⟩),jP o] w λe w'=>e= .returned (.int .i64 (aT n o.no).2)/\∃A' G' c',WK w0 w' wb (aT n o.no).1 A' G' c' v L:=by
 have hR:aT n o.no=(n,2):=aE7 hc;rw [hR];have hd:decide (o.no<=n.old)=true:=aEO hc;clear hR;open aAP in exact Yk9
theorem Vh (o:gJ) (hok:gX n=true) (h0:0<=o.no) (h1:o.no<=1000000000) (hc:¬o.no<=n.old) (hf:oq n.reqs o.no=false) (h:WK w0 w wb n A G c v L):Calls prog 201 #[.pointer (some ⟨wb,0,none⟩),jP o] w λe w'=>e= .returned (.int .i64 (aT n o.no).2)/\∃A' G' c',WK w0 w' wb (aT n o.no).1 A' G' c' v L:=by
 have hR:aT n o.no=(n,1):=by unfold aT;rw [aEX hc,aE7 hf]
 rw [hR];have hd:decide (o.no<=n.old)=false:=aEN hc;have xU:=Hq (λw1 (hw:WK w0 w1 wb n A G c v L)=>NK w0 w1 wb n A G c v L o.no hok h0 h1 hw);rw [hf] at xU;clear hR h0 h1 hok hf;open aAO in exact Yk9
theorem JE (o:gJ) (hok:gX n=true) (h0:0<=o.no) (h1:o.no<=1000000000) (hc:¬o.no<=n.old) (hf:oq n.reqs o.no=true) (hs:(n.reqs.getD (dW n.reqs o.no) default).s=1) (h:WK w0 w wb n A G c v L):Calls prog 201 #[.pointer (some ⟨wb,0,none⟩),jP o] w λe w'=>e= .returned (.int .i64 (aT n o.no).2)/\∃A' G' c',WK w0 w' wb (aT n o.no).1 A' G' c' v L:=by
 have hR:aT n o.no=(n,1):=by unfold aT;rw [aEX hc,aEX Abi];rw [aE7 hs]
 exact axp
theorem R4 (o:gJ) (hok:gX n=true) (h0:0<=o.no) (h1:o.no<=1000000000) (hc:¬o.no<=n.old) (hf:oq n.reqs o.no=true) (hs:(n.reqs.getD (dW n.reqs o.no) default).s=2) (h:WK w0 w wb n A G c v L):Calls prog 201 #[.pointer (some ⟨wb,0,none⟩),jP o] w λe w'=>e= .returned (.int .i64 (aT n o.no).2)/\∃A' G' c',WK w0 w' wb (aT n o.no).1 A' G' c' v L:=by
 have hR:aT n o.no=(n,0):=by unfold aT;rw [aEX hc,aEX Abi];rw [aEX Aaa,aE7 hs]
 exact axp
theorem ZV (o:gJ) (E:Nat->Addr) (hz:eF n 1048576) (hok:gX n=true) (h0:0<=o.no) (h1:o.no<=1000000000) (hc:¬o.no<=n.old) (hf:oq n.reqs o.no=true) (hs:(n.reqs.getD (dW n.reqs o.no) default).s=0) (h:WK w0 w wb n A G c v L) (he:gY w0 E):Calls prog 201 #[.pointer (some ⟨wb,0,none⟩),jP o] w λe w'=>e= .returned (.int .i64 (aT n o.no).2)/\∃A' G' c',WK w0 w' wb (aT n o.no).1 A' G' c' v L:=by
 have hR:aT n o.no=(if (dw n.pu (n.reqs.getD (dW n.reqs o.no) default).k 0 1 (-1) (n.reqs.getD (dW n.reqs o.no) default).n).2=true then
  (eO (setPu n (dw n.pu (n.reqs.getD (dW n.reqs o.no) default).k 0 1 (-1) (n.reqs.getD (dW n.reqs o.no) default).n).1) (n.reqs.set (dW n.reqs o.no) (pX (n.reqs.getD (dW n.reqs o.no) default))),0) else(n,1)):=by
  unfold aT
  rw [aEX hc,aEX Abi,aEX Aaa,aEX Aaa]
 rw [hR];have hd:decide (o.no<=n.old)=false:=aEN hc;open asr in exact aaD
theorem ZW (w0 w:World) (wb:Nat) (n:Nd) (A:bq) (G:aK) (c:Nat->Nat) (v:Value) (L:List Mg) (o:gJ) (E:Nat->Addr) (hz:eF n 1048576) (hok:gX n=true) (h0:0<=o.no) (h1:o.no<=1000000000) (h:WK w0 w wb n A G c v L) (he:gY w0 E):Calls prog 201 #[.pointer (some ⟨wb,0,none⟩),jP o] w λe w'=>e= .returned (.int .i64 (aT n o.no).2)/\∃A' G' c',WK w0 w' wb (aT n o.no).1 A' G' c' v L:=by
 by_cases hc:o.no<=n.old
 .exact R5 w0 w wb n A G c v L o hc h
 cases hf:oq n.reqs o.no with
 |false=>exact Vh w0 w wb n A G c v L o hok h0 h1 hc hf h
 |true=>
  have hil:=((ou n.reqs o.no).1 hf).1;have hgd:n.reqs.getD (dW n.reqs o.no) default=n.reqs[dW n.reqs o.no]:=by rw [aFl,aEQ hil];rfl
  obtain⟨_,_,_,_,b1,b2⟩:=jY ((iT hok).2.2.1 _ (aE2 hil));rw [<-hgd] at b1 b2;by_cases s1:(n.reqs.getD (dW n.reqs o.no) default).s=1
  .exact JE w0 w wb n A G c v L o hok h0 h1 hc hf s1 h
  by_cases s2:(n.reqs.getD (dW n.reqs o.no) default).s=2
  .exact R4 w0 w wb n A G c v L o hok h0 h1 hc hf s2 h
  .exact ZV w0 w wb n A G c v L o E hz hok h0 h1 hc hf Aaa h he
theorem WK.reqPut {w0 w w6:World} {wb:Nat} {n:Nd} {A:bq} {G:aK} {c:Nat->Nat} {v:Value} {L:List Mg} {a6:Option Addr} {c6:Nat} {l:List Rq} (h:WK w0 w wb n A G c v L) (hown:w6.ownsRow w0.heap.size 148 4 (.slice a6 l.length c6) l.length (GR.flat aL l)) (hg:w.grownBy w6 (Value.slice A.r n.reqs.length A.cr).ownBlock) (hv:∀x,(Value.slice a6 l.length c6).ownBlock=some x->(Value.slice A.r n.reqs.length A.cr).ownBlock=some x\/w.heap.size<=x):
 w6.heap[wb]?=some (.cells (Xq n A v) 215 (0,0))/\WK w0 (w6.setCell ⟨wb,8,none⟩ (.slice a6 l.length c6)) wb (eO n l) ⟨A.k,A.p,A.o,A.s,a6,A.ck,A.cp,A.co,A.cs,c6⟩ G (newC w.heap.size 6 c) v L:=by
 have h1:=h.recol (c':=newC w.heap.size 6 c) (λx hx=>fC hx);have hk1:KC (newC w.heap.size 6 c) 6 w w6:=KC.grown hg h1.no.cr;have hblk:=hk1.obj h1.blk (by rw [h1.cw];omega);have hkeep:=hk1.below h1.keep h1.no.lo Aaa h1.keep.size;have hk2:KC (newC w.heap.size 6 c) 8 w6 (w6.setCell ⟨wb,8,none⟩ (.slice a6 l.length c6)):=KC.set h1.cw
 have hcr:∀x,(Value.slice a6 l.length c6).ownBlock=some x->newC w.heap.size 6 c x=6:=λx hx=>by
  rcases hv x hx with hx'|hx'
  .exact h1.no.cr x hx'
  .exact aX hx'
 have hno:=h1.no;refine⟨hblk,hk2.below hkeep hno.lo Aaa hkeep.size,?_,⟨?_,?_,?_,?_,?_,hno.lo,hno.ck,hno.cp,hno.co,hno.c4,hno.ci,hcr,hno.ni⟩,?_,h1.cm,h1.cw⟩
 .exact aN hblk 8 (.slice a6 l.length c6)
 .exact hk2.w (hk1.w hno.k hno.ck Aaa) hno.ck Aaa
 .exact hk2.w (hk1.w hno.p hno.cp Aaa) hno.cp Aaa
 .exact hk2.own (hk1.own hno.o hno.co Aaa) hno.co Aaa
 .exact aiM
 .exact hk2.own hown hcr Aaa
 .exact hk2.own (hk1.own h1.m h1.cm Aaa) h1.cm Aaa
theorem WK.oldPut {w0 w:World} {wb:Nat} {n:Nd} {A:bq} {G:aK} {c:Nat->Nat} {v:Value} {L:List Mg} (h:WK w0 w wb n A G c v L) (y:Int):WK w0 (w.setCell ⟨wb,7,none⟩ (.int .i64 y)) wb (oW n y) A G c v L:=by
 have hk2:KC c 8 w (w.setCell ⟨wb,7,none⟩ (.int .i64 y)):=KC.set h.cw;have hno:=h.no.kc hk2 Aaa;exact⟨hk2.below h.keep h.no.lo Aaa h.keep.size,aN h.blk 7 (.int .i64 y),⟨hno.k,hno.p,hno.o,hno.s,hno.r,hno.lo,hno.ck,hno.cp,hno.co,hno.c4,hno.ci,hno.cr,hno.ni⟩,hk2.own h.m h.cm Aaa,h.cm,h.cw⟩
def Dh (n:Nd) (q:Rq) (i:Nat):Nd:=if 30 < (qB n.reqs i q).length then eO (oW n ((qB n.reqs i q).headD default).no) ((qB n.reqs i q).drop 1) else eO n (qB n.reqs i q)
theorem FV (n:Nd) (q:Rq):Dh n q (dW n.reqs q.no)=rJ n q:=by
 unfold Dh rJ;rw [show qB n.reqs (dW n.reqs q.no) q=wK n.reqs q from rfl,List.drop_one]
theorem adU (q:Rq) (i:Nat) (hi:i<=n.reqs.length) (hr:n.reqs.length<=30) (h:WK w0 w wb n A G c v L):
 Calls prog 218 #[.pointer (some ⟨wb,0,none⟩),.agg (gT q.no q.k q.n q.s),.int .i64 i] w λe w'=>e= .returned (.tuple #[])/\∃A' G' c',WK w0 w' wb (Dh n q i) A' G' c' v L:=by
 have HW:=Hq h;have HW1:=Hq (h.step (au w (.cells (gT q.no q.k q.n q.s) 148)));have wu:=Hq (aEK w (.cells (gT q.no q.k q.n q.s) 148));clear h;have hlen:=Qc n.reqs i q hi;obtain⟨c0,c1,c2,c3,c4,c5,c6,c7,c8,c9⟩:=jN HW1.blk;obtain⟨p0,p1,p2,p3⟩:=iD wu;have hwl:=ay HW.blk;have hne:wb≠w.heap.size:=Aaa
 go_in
 go_upto_region 1 with fail;have y8:=aEL c8;have z0:=aEL p0;have z1:=aEL p1;have z2:=aEL p2;have z3:=aEL p3;clear c0 c1 c2 c3 c4 c5 c6 c7 c8 c9 p0 p1 p2 p3;refine mO Aab ?_;show wW _ _ _ _ 14 (Array.replicate 14 false) _ _
 open aqE in exact aj7
theorem Xh {w0 w x:World} {wb:Nat} {n:Nd} {A:bq} {G:aK} {c:Nat->Nat} {v:Value} {L:List Mg} (h:WK w0 w wb n A G c v L) {r:List Pu×Bool} {a:Option Addr} {cp g:Nat} (hb:aH w x) (hg:w.heap.size<=g) (hp:xV x a g r.1):
 Calls prog 214 #[.pointer (some ⟨wb,0,none⟩),.slice a r.1.length cp,.bool r.2] x λe w'=>e= .returned (.bool r.2)/\∃A' G' c',WK w0 w' wb (if r.2=true then setPu n r.1 else n) A' G' c' v L/\(∀k o,k≠wb->x.heap[k]?=some o->w'.heap[k]?=some o)/\∀k,k < w.heap.size->c' k=c k:=by
 obtain⟨l,b⟩:=r;cases b with
 |false=>
  refine(CJ wb a l.length cp x).mono ?_;rintro e w' ⟨rfl,rfl⟩;exact⟨rfl,A,G,c,h.step hb,λ_ _ _ h=>h,λ_ _=>rfl⟩
 |true=>
  refine(zn wb n A v a l.length cp x (h.step hb).blk).mono ?_;rintro e w' ⟨rfl,rfl⟩;exact⟨rfl,_,_,_,h.setPu hb hp (λy hy=>by rw [(cu hy).1];exact hg),λk o hk ho=>by rw [aE9 _ _ _ _ hk];exact ho,λk hk=>fC hk⟩
theorem azH {w:World} {g:Nat} {a b d e u:Value} {t:TypeId} (h:w.heap[g]?=some (.cells #[a,b,d,e] t (0,0))):(w.setCell ⟨g,3,none⟩ u).heap[g]?=some (.cells #[a,b,d,u] t (0,0)):=aN h 3 u
theorem RJ (o:gJ) (hc:o.no<=n.old) (h:WK w0 w wb n A G c v L):Calls prog 200 #[.pointer (some ⟨wb,0,none⟩),jP o] w λe w'=>e= .returned (.int .i64 (fK n o.no o.k o.n).2)/\∃A' G' c',WK w0 w' wb (fK n o.no o.k o.n).1 A' G' c' v L:=by
 have hR:fK n o.no o.k o.n=(n,2):=aE7 hc;rw [hR];have hd:decide (o.no<=n.old)=true:=aEO hc;clear hR;open aAS in exact Yk9
theorem ZR (o:gJ) (E:Nat->Addr) (hz:eF n 1048576) (hok:gX n=true) (hk:o.k.size<=1048576) (h0:0<=o.no) (h1:o.no<=1000000000) (hc:¬o.no<=n.old) (hf:oq n.reqs o.no=false) (h:WK w0 w wb n A G c v L) (he:gY w0 E):Calls prog 200 #[.pointer (some ⟨wb,0,none⟩),jP o] w λe w'=>e= .returned (.int .i64 (fK n o.no o.k o.n).2)/\∃A' G' c',WK w0 w' wb (fK n o.no o.k o.n).1 A' G' c' v L:=by
 have hR:fK n o.no o.k o.n=(rJ (setPu n (dw n.pu o.k 0 (-1) 1 o.n).1) ⟨o.no,o.k,o.n,if (dw n.pu o.k 0 (-1) 1 o.n).2=true then 0 else 1⟩,if (dw n.pu o.k 0 (-1) 1 o.n).2=true then 0 else 1):=by
  unfold fK;rw [aEX hc,aEX Abi]
 have HAD:=Hq hR;generalize fK n o.no o.k o.n=RES at *;have hd:decide (o.no<=n.old)=false:=aEN hc;have xU:=Hq (λw1 c1 (hw:WK w0 w1 wb n A G c1 v L)=>NK w0 w1 wb n A G c1 v L o.no hok h0 h1 hw);rw [hf] at xU;have hlen:=(iT hok).2.1;have hil:=xM n.reqs o.no;have HRL:=Hq (show(dw n.pu o.k 0 (-1) 1 o.n).2=false->(dw n.pu o.k 0 (-1) 1 o.n).1=n.pu from JQ);have HKI:=Hq (fun(l:List Pu) s=>FV (setPu n l) ⟨o.no,o.k,o.n,s⟩);have HKN:=Hq (λs=>FV n ⟨o.no,o.k,o.n,s⟩);dsimp only[setPu] at HKI;dsimp only at HKN;have Sd:=Hq (λw1 c1 (hw:WK w0 w1 wb n A G c1 v L)=>YE A.p A.cp n.pu o.k o.n E w1 hz.p hz.pk hk hw.no.p.at (he.below hw.keep));unfold jS at Sd;generalize dw n.pu o.k 0 (-1) 1 o.n=r at *;generalize dW n.reqs o.no=i at *;clear hR h0 h1 hok hf he hz;open aAR in exact Yk9
theorem aBV (no:Int) (k k':ByteArray) (n n' s s':Int) (W:World):(binOp .eql 148 (.agg (gT no k n s)) (.agg (gT no k' n' s'))).run prog W= .ok (.bool ((k.toList == k'.toList)&&decide (n=n')&&decide (s=s'))) W:=by
 by_cases h1:k.toList == k'.toList<;>by_cases h2:n=n'<;>by_cases h3:s=s'<;>simp[go_sem,h1,h2,h3]
theorem RI (o:gJ) (hok:gX n=true) (hk:o.k.size<=1048576) (h0:0<=o.no) (h1:o.no<=1000000000) (hc:¬o.no<=n.old) (hf:oq n.reqs o.no=true) (h:WK w0 w wb n A G c v L):Calls prog 200 #[.pointer (some ⟨wb,0,none⟩),jP o] w λe w'=>e= .returned (.int .i64 (fK n o.no o.k o.n).2)/\∃A' G' c',WK w0 w' wb (fK n o.no o.k o.n).1 A' G' c' v L:=by
 open asu in exact aaD
theorem af5 (w0 w:World) (wb:Nat) (n:Nd) (A:bq) (G:aK) (c:Nat->Nat) (v:Value) (L:List Mg) (o:gJ) (E:Nat->Addr) (hz:eF n 1048576) (hok:gX n=true) (hk:o.k.size<=1048576) (h0:0<=o.no) (h1:o.no<=1000000000) (h:WK w0 w wb n A G c v L) (he:gY w0 E):Calls prog 200 #[.pointer (some ⟨wb,0,none⟩),jP o] w λe w'=>e= .returned (.int .i64 (fK n o.no o.k o.n).2)/\∃A' G' c',WK w0 w' wb (fK n o.no o.k o.n).1 A' G' c' v L:=by
 by_cases hc:o.no<=n.old
 .exact RJ w0 w wb n A G c v L o hc h
 cases hf:oq n.reqs o.no with
 |false=>exact ZR w0 w wb n A G c v L o E hz hok hk h0 h1 hc hf h he
 |true=>exact RI w0 w wb n A G c v L o hok hk h0 h1 hc hf h
end Go.Proofs.YtbolgdleijjgfaaGreatDoor
