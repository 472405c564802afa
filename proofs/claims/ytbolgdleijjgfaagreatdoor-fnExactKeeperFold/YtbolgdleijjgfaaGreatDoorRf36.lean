/- Parts. -/
import Derived.Test.YtbolgdleijjgfaaGreatDoorRf35
namespace Go.Proofs.YtbolgdleijjgfaaGreatDoor
open Go.Proofs.Tryz
set_option maxHeartbeats 8000000
set_option maxRecDepth 100000
open Go.RowKit
open Mth
variable (w0 w:World) (wb:Nat) (n:Nd) (A:bq) (G:aN) (c:Nat->Nat) (v:Value) (L:List Mg)
abbrev rqv (q:Rq):Value:= .agg (gY q.no q.k q.n q.s)
theorem ako (q:Rq) (no:Int) (w:World) (h0:0<=q.no) (h1:q.no<=1000000000) (h2:0<=no) (h3:no<=1000000000):
 Calls prog 241 #[rqv q,.int .i64 no] w (dU w (.int .i64 (q.no - no))):=by
 obtain⟨qno,qk,qn,qs⟩:=q;dsimp only at h0 h1;go_in
 go_wp2_with fail;go_ret;exact⟨rfl,au w _⟩
theorem aye (a:Option Addr) (cap:Nat) (l:List Rq) (no:Int) (w:World) (hl:l.length<=1000) (ha:gB w a l) (hp:l.Pairwise (λs t=>s.no < t.no)) (hb:∀q∈l,0<=q.no/\q.no<=1000000000) (h0:0<=no) (h1:no<=1000000000):
 Calls prog 240 #[.slice a l.length cap,.int .i64 no,.func (.func 241) #[] #[]] w (dU w (.tuple #[.int .i64 (dZ l no:Nat),.bool (oU l no)])):=by
 have HC:=Hq (λq w1 (hq:q∈l)=>ako q no w1 (hb q hq).1 (hb q hq).2 h0 h1);have HLO:=Hq (zy l no);have HHI:=Hq (zx (no:=no) hp);have HLE:=Hq (xS l no);have HF:=Hq (oV l no);have HA:=Hq ha;clear ha hp hb;generalize oU l no=RF at *;generalize dZ l no=R at *;go_in
 go_wp2_with fail;go_loopw [9,10] (λi j wr=>∃p q:Nat,p<=R/\R<=q/\q<=l.length/\i= .int .i64 p/\j= .int .i64 q/\aH w wr) (λi j _=>(intOf j).toNat - (intOf i).toNat)
 case atStart=>exact⟨0,l.length,aE7 _,HLE,aER _,rfl,rfl,aE3 _ _⟩
 case round=>
  obtain⟨p,q,h2,h3,h4,rfl,rfl,hbw⟩:=hrel;have HB:=Hq hbw;clear hbw;by_cases hlt:p < q
  .have PI:(p:Int) < (q:Int):=Aaa
   go_upto_region 5 with fail;obtain⟨m,hm⟩:∃m:Nat,((p:Int)+q) / 2=m:=⟨(p+q) / 2,Aaa⟩;have hmp:p<=m:=Aaa
   have hmq:m < q:=Aaa
   rw [hm];clear hm PI;have hml:m < l.length:=Aaa
   obtain⟨g,off,e0,hg,q0,q1,q2,q3⟩:=gB.four (GR.At.below HA HB) m hml;have HCM:=Hq (λw1=>HC l[m] w1 (aE8 hml));have HLM:=Hq (HLO m hml);have HHM:=Hq (HHI m hml);subst e0;generalize l[m]=lm at *;obtain⟨ln,lk,lx,ls⟩:=lm;dsimp only at q0 q1 q2 q3 HCM HLM HHM;open awv in exact ahs
  .have hpq:p=R:=Aaa
   subst hpq;have hnlt:¬((p:Int) < (q:Int)):=Aaa
   by_cases hpl:p < l.length
   .have aCO:(p:Int) < (l.length:Int):=Aaa
    obtain⟨g,off,e0,hg,q0,q1,q2,q3⟩:=gB.four (GR.At.below HA HB) p hpl;have HCM:=Hq (λw1=>HC l[p] w1 (aE8 hpl))
    have HFP:Hid (RF=decide (l[p].no=no)):=by
     show RF=_
     rw [aF7,ah HF,aFu];exact⟨fun⟨_,h⟩=>h,λh=>⟨hpl,h⟩⟩
    subst e0;clear HF HC HLO HHI;generalize l[p]=lm at *;obtain⟨ln,lk,lx,ls⟩:=lm;dsimp only at q0 q1 q2 q3 HCM HFP;open awu in exact ahs
   .have aCO:¬((p:Int) < (l.length:Int)):=Aaa
    have HFP:Hid (RF=false):=by
     show RF=_
     rw [aGO];intro h;exact hpl (HF.1 h).1
    clear HF HC HLO HHI;go_wp2_with fail;go_ret2
    exact⟨by rw [ah HFP];rfl,HB⟩
theorem NY (no:Int) (hok:iw n=true) (h0:0<=no) (h1:no<=1000000000) (h:WK w0 w wb n A G c v L):
 Calls prog 216 #[.pointer (some ⟨wb,0,none⟩),.int .i64 no] w (dU w (.tuple #[.int .i64 (dZ n.reqs no:Nat),.bool (oU n.reqs no)])):=by
 obtain⟨r1,r2,r3,r4,r5⟩:=iY hok;have HBS:=Hq (λw1 (ha:gB w1 A.r n.reqs)=>aye A.r A.cr n.reqs no w1 Aaa ha r1 (λq hq=>by have:=kK (r3 q hq);omega) h0 h1);have HA:=Hq h.no.at.r;obtain⟨c0,c1,c2,c3,c4,c5,c6,c7,c8,c9⟩:=jT h.blk;clear h r1 r3 hok;generalize oU n.reqs no=RF at *;generalize dZ n.reqs no=R at *;go_in
 go_wp2_with fail;refine(HBS w HA).mono ?_;rintro e w1 ⟨rfl,hb1⟩;have HB:=Hq hb1;clear hb1;go_wp2_with fail;go_ret2
 exact⟨rfl,HB⟩
theorem og {P:Program} (w:World) (dT sT ty elem:TypeId) (sz:Nat) (g o dLen dCap:Nat) (a:Addr) (sLen sCap:Nat) (cur:Array Value) (t:TypeId) (cs:List Value)
 (hu:P.underlying dT=some (.slice elem)) (hs:(P.info? elem).map (·.size)=some sz)
 (hg:w.heap[g]?=some (.cells cur t (0,0))) (hn:cs.length=Nat.min sLen dLen*sz)
 (hsrc:∀j v,cs[j]?=some v->w.cell? (a.add j)=some v) (hfit:o+cs.length<=cur.size) (h1:∀v∈cs,v.oneCell'=true):
 (Builtin.copy_ #[dT,sT] ty #[.slice (some ⟨g,o,none⟩) dLen dCap,.slice (some a) sLen sCap]).run P w=
  .ok (goInt (Nat.min sLen dLen)) (w.setRow g (cur.toList.take o++cs++cur.toList.drop (o+cs.length)).toArray):=by
 have hl:=run_loadCells_list (P:=P) w a cs hsrc;have hst:=run_storeCells_at P g o t cs 0 cur w hg (by simpa using hfit) h1;cases hq:P.info? elem with
 |none=>simp[hq] at hs
 |some i=>
  have hi:i.size=sz:=by simpa [hq] using hs
  rw [hn] at hl;simp[Builtin.copy_,run_underlying hu,Builtin.lenOf,Builtin.firstCells,sizeOf,typeInfo,hq,hi,hl,hst]
theorem Ul:(prog.info? 148).map (λi=>(i.zero,i.size,i.bytes))=some (some (.agg (gY 0 ByteArray.empty 0 0)),4,40):=Aab
theorem Np:(prog.info? 148).map (·.size)=some 4:=Aab
def Lh (w:World) (B:Nat) (v:Value) (l:List Rq) (e:Ending) (w':World):Prop:=
 ∃a cp,e= .returned (.slice a l.length cp)/\w'.ownsRow B 148 4 (.slice a l.length cp) l.length (GR.flat aL l)/\w.grownBy w' v.ownBlock/\∀x,(Value.slice a l.length cp).ownBlock=some x->v.ownBlock=some x\/w.heap.size<=x
theorem Um (B:Nat) (a:Option Addr) (cap:Nat) (l:List Rq) (q:Rq) (vb:Nat) (w:World) (hl:l.length<=1000) (hB:B<=w.heap.size) (ho:w.ownsRow B 148 4 (.slice a l.length cap) l.length (GR.flat aL l)) (hv:w.heap[vb]?=some (.cells (gY q.no q.k q.n q.s) 148 (0,0))):
 Calls prog 242 #[.slice a l.length cap,.int .i64 l.length,.slice (some ⟨vb,0,none⟩) 1 1] w (Lh w B (.slice a l.length cap) (l++[q])):=by
 obtain⟨i0,hi,hz0,hz1,hz2⟩:=aFt Ul;obtain⟨v',w',hr,h2,h3,h4⟩:=kX w B 37 37 148 i0 _ 4 40 underlying37 hi hz0 hz1 hz2 rfl Aae (.slice a l.length cap) l.length (GR.flat aL l) ho ⟨vb,0,none⟩ 1 1 (aL q) rfl (aFF hv) (xE q) Aaj Aaa hB;obtain⟨a2,c2,he,_⟩:=GR.own_at (enc:=aL) (sz:=4) (l:=l++[q]) aW (by rw [aEW,jr];exact h2);rw [aEW] at he;have he2:v'= .slice a2 (l.length+1) c2:=he;subst he2
 have hle:l.length<=cap\/(a=none/\l.length=0/\cap=0):=by
  rcases ho.2 with⟨hx,hy⟩|⟨g,cp,cur,hx,_,_,hc,_⟩
  .simp only[aFN] at hx;exact .inr ⟨hx.1,hy,hx.2.2⟩
  .simp only[aFN] at hx;exact .inl Aaa
 have hcap:l.length<=cap:=by rcases hle with h|h<;>omega
 have hcm:cap<=9223372036854775807:=by
  rcases ho.2 with⟨hx,hy⟩|⟨g,cp,cur,hx,_,_,_,hc,_⟩
  .simp only[aFN] at hx;omega
  .simp only[aFN] at hx;unfold maxLen at hc;omega
 have H:=Hq (show Lh w B (.slice a l.length cap) (l++[q]) (.returned (.slice a2 (l.length+1) c2)) w' from⟨a2,c2,by rw [aEW];rfl,by rw [aEW,jr];exact h2,h3,by rw [aEW];exact h4⟩);have hq:((l.length:Int) == (l.length:Int))=true:=Aac
 clear h2 h3 h4 ho hv hi hz0 hz1 hz2 hle he;cases a with
 |none=>
  go_in
  go_wp2_with (at_builtin;refine Lib.wpList_append_run _ rfl _ _ _ _ rfl _ _ rfl rfl _ _ hr ?_)
  go_ret;exact H
 |some ad=>
  go_in
  go_wp2_with (at_builtin;refine Lib.wpList_append_run _ rfl _ _ _ _ rfl _ _ rfl rfl _ _ hr ?_)
  all_goals
   try go_wp2_with (at_builtin;refine Lib.wpList_append_run _ rfl _ _ _ _ rfl _ _ rfl rfl _ _ hr ?_)
   go_ret
   exact H
theorem iq (l:List Rq):(GR.flat aL l).length=l.length*4:=GR.flat_length aL 4 aW l
theorem tC (l:List Rq) (i:Nat) (hi:i<=l.length):(GR.flat aL l).take (i*4)=GR.flat aL (l.take i)/\(GR.flat aL l).drop (i*4)=GR.flat aL (l.drop i):=by
 have e:GR.flat aL l=GR.flat aL (l.take i)++GR.flat aL (l.drop i):=by rw [<-GR.flat_append,aFJ]
 have hlen:(GR.flat aL (l.take i)).length=i*4:=by rw [iq,aFj,aFZ hi]
 rw [e,<-hlen,aGI,List.drop_left];exact⟨rfl,rfl⟩
def uj (cur:List Value) (l:List Rq) (i:Nat):List Value:=cur.take ((i+1)*4)++GR.flat aL (l.drop i)++cur.drop ((i+1)*4+(l.length - i)*4)
def Nk (cur:List Value) (l:List Rq) (i:Nat) (q:Rq):List Value:=(uj cur l i).take (i*4)++aL q++(uj cur l i).drop (i*4+4)
theorem QV (cur:List Value) (l:List Rq) (i:Nat) (hi:i < l.length) (hc:(l.length+1)*4<=cur.length):(uj cur l i).length=cur.length:=by
 unfold uj;exact aiG
theorem adk (cur:List Value) (l:List Rq) (i:Nat) (q:Rq) (hi:i < l.length) (hc:(l.length+1)*4<=cur.length):(Nk cur l i q).length=cur.length:=by
 have h1:=QV cur l i hi hc;unfold Nk;exact aiN
theorem Zm (cur:List Value) (l:List Rq) (i:Nat) (q:Rq) (hi:i < l.length) (hc:(l.length+1)*4<=cur.length) (ht:cur.take (l.length*4)=GR.flat aL l):(Nk cur l i q).take ((l.length+1)*4)=GR.flat aL (l.take i++q::l.drop i):=by
 have e1:(uj cur l i).take (i*4)=GR.flat aL (l.take i):=by
  unfold uj;rw [aFx,List.take_append_of_le_length Abk,aGH,aFZ Aaa,<-(tC l i Aaa).1,<-ht,aGH,aFZ Aaa]
 have hl1:(cur.take ((i+1)*4)).length=i*4+4:=Abk
 have e2:(uj cur l i).drop (i*4+4)=GR.flat aL (l.drop i)++cur.drop ((i+1)*4+(l.length - i)*4):=by
  unfold uj;rw [aFx,<-hl1,List.drop_left]
 have hd:(GR.flat aL (l.drop i)).length=(l.length - i)*4:=Abw
 have ht2:(GR.flat aL (l.take i)).length=i*4:=by rw [iq,aFj,aFZ Aaa]
 unfold Nk;rw [e1,e2,GR.flat_append,GR.flat_cons,<-aFx];rw [show(l.length+1)*4=(GR.flat aL (l.take i)++aL q++GR.flat aL (l.drop i)).length by rw [aEW,aEW,hd,ht2];show _=_+4+_;omega,aGI];rw [aFx]
theorem MI (g cap i:Nat) (l:List Rq) (q:Rq) (vb:Nat) (w:World) (cur:Array Value) (hl:l.length<=1000) (hi:i < l.length) (hroom:l.length+1<=cap) (hcm:cap<=maxLen) (hvb:vb≠g) (hblk:w.heap[g]?=some (.cells cur 148 (0,0))) (hcs:cur.size=cap*4) (htake:cur.toList.take (l.length*4)=GR.flat aL l) (hv:w.heap[vb]?=some (.cells (gY q.no q.k q.n q.s) 148 (0,0))):
 Calls prog 242 #[.slice (some ⟨g,0,none⟩) l.length cap,.int .i64 i,.slice (some ⟨vb,0,none⟩) 1 1] w λe w'=>
  e= .returned (.slice (some ⟨g,0,none⟩) (l.length+1) cap)/\w'.heap[g]?=some (.cells (Nk cur.toList l i q).toArray 148 (0,0))/\w.grownBy w' (some g):=by
 have hcl:(l.length+1)*4<=cur.toList.length:=Acs
 have hdl:(GR.flat aL (l.drop i)).length=(l.length - i)*4:=Abw
 have hcp1:∀ty dl sl dc sc,dl=l.length - i->sl=l.length+1 - i->(Builtin.copy_ #[37,37] ty #[.slice (some ⟨g,(i+1)*4,none⟩) dl dc,.slice (some ⟨g,i*4,none⟩) sl sc]).run prog w.drew= .ok (goInt ((l.length - i:Nat):Int)) (w.drew.setRow g (uj cur.toList l i).toArray):=λty dl sl dc sc e1 e2=>by
  subst e1 e2
  have h:=og (P:=prog) w.drew 37 37 ty 148 4 g ((i+1)*4) (l.length - i) dc ⟨g,i*4,none⟩ (l.length+1 - i) sc cur 148 (GR.flat aL (l.drop i)) underlying37 Np hblk (by rw [hdl];simp only[Nat.min_def];split<;>omega)
   (λj v hj=>by
    rw [aGN]
    have h1:(GR.flat aL l)[i*4+j]?=some v:=by rw [<-List.getElem?_drop,(tC l i Aaa).2];exact hj
    rw [<-htake,List.getElem?_take] at h1
    split at h1
    .have h2:w.drew.cell? ⟨g,i*4+j,none⟩=cur[i*4+j]?:=aE1 w.drew g (i*4+j) cur 148 (0,0) hblk;rw [h2,<-Array.getElem?_toList];exact h1
    .cases h1)
   (by rw [hdl,hcs];omega) (λv hv=>nN _ v hv)
  rw [hdl,show Nat.min (l.length+1 - i) (l.length - i)=l.length - i by simp only[Nat.min_def];split<;>omega] at h
  exact h
 have hr1:=QV cur.toList l i hi hcl;have abT:cur.toList.length=cap*4:=Adf
 have akE:(w.drew.setRow g (uj cur.toList l i).toArray).heap[g]?=some (.cells (uj cur.toList l i).toArray 148 (0,0)):=setRow_heap w.drew g cur _ 148 _ hblk
 have hvr:∀j v,(aL q)[j]?=some v->(w.drew.setRow g (uj cur.toList l i).toArray).cell? ⟨vb,0+j,none⟩=some v:=λj v hj=>by
  have h1:(w.drew.setRow g (uj cur.toList l i).toArray).heap[vb]?=w.heap[vb]?:=setRow_other w.drew g vb _ hvb
  rw [aFw (w:=w) (a:=⟨vb,0+j,none⟩) h1,<-aGN]
  exact aFF hv j v hj
 have hcp2:∀ty dl dc,dl=l.length+1 - i->(Builtin.copy_ #[37,37] ty #[.slice (some ⟨g,i*4,none⟩) dl dc,.slice (some ⟨vb,0,none⟩) 1 1]).run prog (w.drew.setRow g (uj cur.toList l i).toArray)= .ok (goInt 1) ((w.drew.setRow g (uj cur.toList l i).toArray).setRow g (Nk cur.toList l i q).toArray):=λty dl dc e1=>by
  subst e1
  have h:=og (P:=prog) (w.drew.setRow g (uj cur.toList l i).toArray) 37 37 ty 148 4 g (i*4) (l.length+1 - i) dc ⟨vb,0,none⟩ 1 1 (uj cur.toList l i).toArray 148 (aL q) underlying37 Np akE (by show 4=_;simp only[Nat.min_def];split<;>omega)
   (λj v hj=>by rw [aGN];exact hvr j v hj)
   (by show i*4+4<=_;rw [aFM,hr1,abT];omega) (xE q)
  rw [show Nat.min 1 (l.length+1 - i)=1 by simp only[Nat.min_def];split<;>omega] at h
  exact h
 have hfin:=Hq (show((w.drew.setRow g (uj cur.toList l i).toArray).setRow g (Nk cur.toList l i q).toArray).heap[g]?=some (.cells (Nk cur.toList l i q).toArray 148 (0,0))/\w.grownBy ((w.drew.setRow g (uj cur.toList l i).toArray).setRow g (Nk cur.toList l i q).toArray) (some g) from
  ⟨setRow_heap _ g (uj cur.toList l i).toArray _ 148 _ akE,⟨rfl,rfl,rfl,Aac,λk _ hk=>(setRow_other _ g k _ (λe=>hk Aap)).trans (setRow_other w.drew g k _ (λe=>hk Aap))⟩⟩)
 have hov:∀lb cb,(callFunc 275 #[.slice (some ⟨vb,0,none⟩) 1 1,.slice (some ⟨g,(i+1)*4,none⟩) lb cb]).run prog w= .ok (.value (.bool false)) w:=λlb cb=>by
  rw [aFH func275 Aab Aab Aab (e:=Extern.SlicesOverlaps.overlaps #[37,37] #[4]) Aab,
   Lib.run_overlaps_apart w 37 4 148 underlying37 4 (λw=>Aab) ⟨vb,0,none⟩ ⟨g,(i+1)*4,none⟩ 1 1 lb cb hvb 148 148 4 cur.size (by unfold World.shape?;rw [hv];rfl) (by unfold World.shape?;rw [hblk]) Aaa (aC hv 0) (aC hv 4)]
  rfl
 open atu in exact agK
theorem afI {w0 w x:World} {wb:Nat} {n:Nd} {A:bq} {G:aN} {c:Nat->Nat} {v:Value} {L:List Mg} (h:WK w0 w wb n A G c v L) {r:List Pu×Bool} {a:Option Addr} {cp g:Nat} (hb:aH w x) (hg:w.heap.size<=g) (hp:yg x a g r.1):
 Calls prog 214 #[.pointer (some ⟨wb,0,none⟩),.slice a r.1.length cp,.bool r.2] x λe w'=>e= .returned (.bool r.2)/\∃A' G' c',WK w0 w' wb (if r.2=true then setPu n r.1 else n) A' G' c' v L/\A'.r=A.r:=by
 obtain⟨l,b⟩:=r;cases b with
 |false=>
  refine(CU wb a l.length cp x).mono ?_;rintro e w' ⟨rfl,rfl⟩;exact⟨rfl,A,G,c,h.step hb,rfl⟩
 |true=>
  refine(zB wb n A v a l.length cp x (h.step hb).blk).mono ?_;rintro e w' ⟨rfl,rfl⟩;exact⟨rfl,_,_,_,h.setPu hb hp (λy hy=>by rw [(dw hy).1];exact hg),rfl⟩
theorem WK.reqRow {w0 w:World} {wb:Nat} {n:Nd} {A:bq} {G:aN} {c:Nat->Nat} {v:Value} {L:List Mg} (h:WK w0 w wb n A G c v L) (i:Nat) (hi:i < n.reqs.length):∃g,A.r=some ⟨g,0,none⟩/\g≠wb/\g < w.heap.size/\(w.cell? ⟨g,i*4,none⟩=some (.int .i64 n.reqs[i].no)/\w.cell? ⟨g,i*4+1,none⟩=some (.string n.reqs[i].k)/\w.cell? ⟨g,i*4+2,none⟩=some (.int .i64 n.reqs[i].n)/\w.cell? ⟨g,i*4+3,none⟩=some (.int .i64 n.reqs[i].s))/\w.frozen? ⟨g,i*4+3,none⟩=false:=by
 obtain⟨a,cp,g,he,hW,hlt,hown⟩:=GR.W.of_own aW h.no.r;have hmem:g∈fp g n.reqs:=dK Aaa;obtain⟨ea,hg,hc,_,_,_,hf⟩:=GR.W.fourReq hW i hi;have hA:A.r=a:=by cases he;rfl
 refine⟨g,by rw [hA,ea],?_,hg,hc,hf⟩;intro hw;have h6:=h.no.cr g (hown g hmem);rw [hw,h.cw] at h6;cases h6
theorem WK.reqSet {w0 w:World} {wb:Nat} {n:Nd} {A:bq} {G:aN} {c:Nat->Nat} {v:Value} {L:List Mg} (h:WK w0 w wb n A G c v L) (i:Nat) (hi:i < n.reqs.length) (g:Nat) (hg:A.r=some ⟨g,0,none⟩):WK w0 (w.setCell ⟨g,i*4+3,none⟩ (.int .i64 2)) wb (eT n (n.reqs.set i (qp n.reqs[i]))) A G c v L:=by
 have ho:=h.no.r;have hcr:=h.no.cr;rw [hg] at ho hcr;have hc6:c g=6:=hcr g rfl;have hk:KC c 6 w (w.setCell ⟨g,i*4+3,none⟩ (.int .i64 2)):=KC.set hc6;have hno:=h.no;have hst:=(ho.stored (i*4+3) (.int .i64 2)).1;rw [Px 2 n.reqs i hi] at hst;have hlen:(n.reqs.set i (qp n.reqs[i])).length=n.reqs.length:=Aac
 refine⟨hk.below h.keep hno.lo Aaa h.keep.size,?_,⟨hk.w hno.k hno.ck Aaa,hk.w hno.p hno.cp Aaa,hk.own hno.o hno.co Aaa,hk.seen hno.s hno.c4 hno.ci Aaa Aaa,?_,hno.lo,hno.ck,hno.cp,hno.co,hno.c4,hno.ci,?_,hno.ni⟩,hk.own h.m h.cm Aaa,h.cm,h.cw⟩
 .have:=hk.obj h.blk (by rw [h.cw];omega);rw [this];show some (Obj.cells #[_,_,_,_,_,_,_,_,.slice A.r n.reqs.length A.cr,_] _ _)=some (Obj.cells #[_,_,_,_,_,_,_,_,.slice A.r (n.reqs.set i (qp n.reqs[i])).length A.cr,_] _ _)
  rw [hlen];rfl
 .show(w.setCell _ _).ownsRow _ _ _ (.slice A.r (n.reqs.set i (qp n.reqs[i])).length A.cr) (n.reqs.set i (qp n.reqs[i])).length (GR.flat aL (n.reqs.set i (qp n.reqs[i])))
  rw [hlen,hg];exact hst
 .show∀x,(Value.slice A.r (n.reqs.set i (qp n.reqs[i])).length A.cr).ownBlock=some x->_
  rw [hlen];exact h.no.cr
theorem R5 (o:gP) (hc:o.no<=n.old) (h:WK w0 w wb n A G c v L):Calls prog 201 #[.pointer (some ⟨wb,0,none⟩),jX o] w λe w'=>e= .returned (.int .i64 (aU n o.no).2)/\∃A' G' c',WK w0 w' wb (aU n o.no).1 A' G' c' v L:=by
 have hR:aU n o.no=(n,2):=aFc hc;rw [hR];have hd:decide (o.no<=n.old)=true:=aET hc;clear hR;open aAU in exact Yk9
theorem Vn (o:gP) (hok:iw n=true) (h0:0<=o.no) (h1:o.no<=1000000000) (hc:¬o.no<=n.old) (hf:oU n.reqs o.no=false) (h:WK w0 w wb n A G c v L):Calls prog 201 #[.pointer (some ⟨wb,0,none⟩),jX o] w λe w'=>e= .returned (.int .i64 (aU n o.no).2)/\∃A' G' c',WK w0 w' wb (aU n o.no).1 A' G' c' v L:=by
 have hR:aU n o.no=(n,1):=by unfold aU;rw [aE2 hc,aFc hf]
 rw [hR];have hd:decide (o.no<=n.old)=false:=aES hc;have yc:=Hq (λw1 (hw:WK w0 w1 wb n A G c v L)=>NY w0 w1 wb n A G c v L o.no hok h0 h1 hw);rw [hf] at yc;clear hR h0 h1 hok hf;open aAT in exact Yk9
theorem JK (o:gP) (hok:iw n=true) (h0:0<=o.no) (h1:o.no<=1000000000) (hc:¬o.no<=n.old) (hf:oU n.reqs o.no=true) (hs:(n.reqs.getD (dZ n.reqs o.no) default).s=1) (h:WK w0 w wb n A G c v L):Calls prog 201 #[.pointer (some ⟨wb,0,none⟩),jX o] w λe w'=>e= .returned (.int .i64 (aU n o.no).2)/\∃A' G' c',WK w0 w' wb (aU n o.no).1 A' G' c' v L:=by
 have hR:aU n o.no=(n,1):=by unfold aU;rw [aE2 hc,aE2 Abi];rw [aFc hs]
 exact axv
theorem R4 (o:gP) (hok:iw n=true) (h0:0<=o.no) (h1:o.no<=1000000000) (hc:¬o.no<=n.old) (hf:oU n.reqs o.no=true) (hs:(n.reqs.getD (dZ n.reqs o.no) default).s=2) (h:WK w0 w wb n A G c v L):Calls prog 201 #[.pointer (some ⟨wb,0,none⟩),jX o] w λe w'=>e= .returned (.int .i64 (aU n o.no).2)/\∃A' G' c',WK w0 w' wb (aU n o.no).1 A' G' c' v L:=by
 have hR:aU n o.no=(n,0):=by unfold aU;rw [aE2 hc,aE2 Abi];rw [aE2 Aaa,aFc hs]
 exact axv
theorem ZY (o:gP) (E:Nat->Addr) (hz:eG n 1048576) (hok:iw n=true) (h0:0<=o.no) (h1:o.no<=1000000000) (hc:¬o.no<=n.old) (hf:oU n.reqs o.no=true) (hs:(n.reqs.getD (dZ n.reqs o.no) default).s=0) (h:WK w0 w wb n A G c v L) (he:iy w0 E):Calls prog 201 #[.pointer (some ⟨wb,0,none⟩),jX o] w λe w'=>e= .returned (.int .i64 (aU n o.no).2)/\∃A' G' c',WK w0 w' wb (aU n o.no).1 A' G' c' v L:=by
 have hR:aU n o.no=(if (dB n.pu (n.reqs.getD (dZ n.reqs o.no) default).k 0 1 (-1) (n.reqs.getD (dZ n.reqs o.no) default).n).2=true then
  (eT (setPu n (dB n.pu (n.reqs.getD (dZ n.reqs o.no) default).k 0 1 (-1) (n.reqs.getD (dZ n.reqs o.no) default).n).1) (n.reqs.set (dZ n.reqs o.no) (qp (n.reqs.getD (dZ n.reqs o.no) default))),0) else(n,1)):=by
  unfold aU
  rw [aE2 hc,aE2 Abi,aE2 Aaa,aE2 Aaa]
 rw [hR];have hd:decide (o.no<=n.old)=false:=aES hc;open asA in exact aaC
theorem Z0 (w0 w:World) (wb:Nat) (n:Nd) (A:bq) (G:aN) (c:Nat->Nat) (v:Value) (L:List Mg) (o:gP) (E:Nat->Addr) (hz:eG n 1048576) (hok:iw n=true) (h0:0<=o.no) (h1:o.no<=1000000000) (h:WK w0 w wb n A G c v L) (he:iy w0 E):Calls prog 201 #[.pointer (some ⟨wb,0,none⟩),jX o] w λe w'=>e= .returned (.int .i64 (aU n o.no).2)/\∃A' G' c',WK w0 w' wb (aU n o.no).1 A' G' c' v L:=by
 by_cases hc:o.no<=n.old
 .exact R5 w0 w wb n A G c v L o hc h
 cases hf:oU n.reqs o.no with
 |false=>exact Vn w0 w wb n A G c v L o hok h0 h1 hc hf h
 |true=>
  have hil:=((oV n.reqs o.no).1 hf).1;have hgd:n.reqs.getD (dZ n.reqs o.no) default=n.reqs[dZ n.reqs o.no]:=by rw [aFs,aEV hil];rfl
  obtain⟨_,_,_,_,b1,b2⟩:=kK ((iY hok).2.2.1 _ (aE8 hil));rw [<-hgd] at b1 b2;by_cases s1:(n.reqs.getD (dZ n.reqs o.no) default).s=1
  .exact JK w0 w wb n A G c v L o hok h0 h1 hc hf s1 h
  by_cases s2:(n.reqs.getD (dZ n.reqs o.no) default).s=2
  .exact R4 w0 w wb n A G c v L o hok h0 h1 hc hf s2 h
  .exact ZY w0 w wb n A G c v L o E hz hok h0 h1 hc hf Aaa h he
end Go.Proofs.YtbolgdleijjgfaaGreatDoor
