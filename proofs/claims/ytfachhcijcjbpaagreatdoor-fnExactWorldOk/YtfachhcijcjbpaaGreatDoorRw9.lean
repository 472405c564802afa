/- Parts. -/
import Derived.Test.YtfachhcijcjbpaaGreatDoorRw5
import Derived.Test.YtfachhcijcjbpaaGreatDoorRw6
namespace Go.Proofs.YtfachhcijcjbpaaGreatDoor
open Go.Proofs.Tryz
set_option maxHeartbeats 4000000
open Mth
variable (l:List Pu) (k:ByteArray) {w W w':World} {B n g mb mp:Nat} {p q:Pu} {v:Value} {ks:List ByteArray} {G:ByteArray->Pu} {a b:ByteArray} {xs:List Value}
namespace Mth
theorem toList_inj (h:a.toList=b.toList):a=b:=by
 rw [aFk,aFk] at h;exact aFP (Array.toList_inj.1 h)
theorem pW (l:List Pu) (k:ByteArray):(aD l k).k=k:=by
 unfold aD;cases h:l.find? (λp=>p.k.toList == k.toList) with
 |none=>rfl
 |some q=>
  have:=List.find?_some h;exact toList_inj (by simpa using this)
theorem qZ {l:List Pu} (hp:l.Pairwise Oz) (hq:q∈l):aD l q.k=q:=by
 unfold aD
 have:l.find? (λp=>p.k.toList == q.k.toList)=some q:=by
  induction l with
  |nil=>simp at hq
  |cons x r ih=>
   rw [List.find?_cons];rcases aET.1 hq with rfl|hq'
   .simp
   .grind [List.lt_irrefl,List.pairwise_cons]
 rw [this];rfl
theorem Nn {l:List Pu} {k:ByteArray} (h:∀q∈l,q.k≠k):aD l k=⟨k,0,0,0⟩:=by
 grind [aD,toList_inj,List.find?_eq_none]
theorem ajn (h:a.toList < b.toList):a≠b:=λe=>by rw [e] at h;exact List.lt_irrefl _ h
theorem afM {l:List Pu} (hp:l.Pairwise Oz) (p:Pu):(iQ l p).map (λq=>upd (aD l) p q.k)=iQ l p:=by
 have:∀q∈iQ l p,upd (aD l) p q.k=q:=by
  intro q hq;unfold iQ at hq;unfold upd;rcases aE0.1 hq with hq|hq
  .rw [aEG (ajn (Ac hq))];exact qZ hp ((aFW _).mem hq)
  .rcases aET.1 hq with rfl|hq
   .rw [aER rfl]
   .rw [aEG (Ne.symm (ajn (N9 hp q hq)))];exact qZ hp ((aFL _).mem (He l p.k q hq))
 exact(List.map_congr_left (g:=id) this).trans (List.map_id _)
def place (l:List Pu) (k:ByteArray):Nat:=(vW l k).length
theorem lV:place l k<=l.length:=by
 grind [place,wN]
theorem head_take:vW l k=l.take (place l k):=by
 grind [lG,vW,place,wN]
theorem jq:lG l k=l.drop (place l k):=by
 grind [lG,vW,place,wN]
def found (l:List Pu) (k:ByteArray):Bool:=match lG l k with
 |[]=>false
 |q::_=>q.k.toList == k.toList
theorem wC {l:List Pu} (h:found l p.k=true):(iQ l p).map (·.k)=l.map (·.k):=by
 grind [found,lG,vW,iQ,kK,wN,toList_inj]
theorem sQ {l:List Pu} (h:found l p.k=true):(iQ l p).length=l.length:=by
 have:=congrArg List.length (wC h);simpa using this
theorem yh {l:List Pu} (h:found l p.k=false):iQ l p=l.take (place l p.k)++p::l.drop (place l p.k):=by
 grind [found,lG,iQ,kK,jq,head_take]
theorem wD {l:List Pu} (h:found l p.k=false):(iQ l p).length=l.length+1:=by
 rw [yh h];have:=lV l p.k;simp;omega
def Aj (l:List Pu) (k:ByteArray) (t:Nat):ByteArray:=(l[t]?).elim k (·.k)
theorem abw {l:List Pu} (hp:l.Pairwise Oz) (k:ByteArray):Lib.bsGo (λt=>Op.bytesLess (Aj l k t).toList k.toList) l.length 0 l.length=place l k:=by
 refine Lib.bsGo_spec _ (place l k) ?_ ?_ _ _ _ Aaa (aEN _) (lV l k)
 .intro t ht;have ht2:t < l.length:=aEH ht (lV l k);have hm:l[t]∈vW l k:=by grind [head_take,List.mem_take_iff_getElem]
  grind [Aj,Ac,qg]
 .intro t ht;by_cases ht2:t < l.length
  .unfold Aj;rw [aEB ht2];show Op.bytesLess l[t].k.toList k.toList=false
   rw [aGp];intro hlt;have hlt':=(qg _ _).1 hlt;have hp0:place l k < l.length:=Aaa
   have hf:lG l k=l[place l k]::l.drop (place l k+1):=by rw [jq,aFw hp0]
   have h1:=BR l k _ _ hf;rcases aFD (place l k) t with h|h
   .grind [place,List.lt_trans,List.pairwise_iff_getElem]
   .grind
  .grind [Aj,qg]
theorem Py:decide (place l k < l.length/\Aj l k (place l k)=k)=found l k:=by
 by_cases h:place l k < l.length
 .have hf:lG l k=l[place l k]::l.drop (place l k+1):=by rw [jq,aFw h]
  have hfo:found l k=(l[place l k].k.toList == k.toList):=by unfold found;rw [hf]
  grind [Aj,place,toList_inj]
 .grind [found,lG,jq,List.drop_eq_nil_of_le]
end Mth
open Go.RowKit
open Mth
namespace Mth
def eT (p:Pu) (dm df ds n:Int):Pu:=⟨p.k,p.m+dm*n,p.f+df*n,p.s+ds*n⟩
end Mth
set_option maxRecDepth 100000
theorem lX:∀(vs:List Value) {w:World} {g o:Nat} {xs:List Value} {t:TypeId},w.heap[g]?=some (.cells xs.toArray t (0,0))->(w.setCells g o vs).heap[g]?=some (.cells (GR.setRun xs o vs).toArray t (0,0)):=by
 intro vs;induction vs with
 |nil=>intro w g o xs t h;exact h
 |cons v vs ih=>
  intro w g o xs t h;refine ih (xs:=xs.set o v) ?_;have:=Fo.blk_set h o v;simpa using this
theorem qy {g g':Nat} (hne:g'≠g):∀(vs:List Value) (w:World) (o:Nat),(w.setCells g o vs).heap[g']?=w.heap[g']?:=by
 intro vs;induction vs with
 |nil=>intro w o;rfl
 |cons v vs ih=>intro w o;exact(ih (w.setCell ⟨g,o,none⟩ v) (o+1)).trans (aEU _ _ _ _ hne)
theorem setCells_size {g:Nat}:∀(vs:List Value) (w:World) (o:Nat),(w.setCells g o vs).heap.size=w.heap.size:=by
 intro vs;induction vs with
 |nil=>intro w o;rfl
 |cons v vs ih=>intro w o;exact(ih (w.setCell ⟨g,o,none⟩ v) (o+1)).trans (Fo.setCell_size w _ v)
theorem gF {g:Nat}:∀(vs:List Value) (w:World) (o:Nat),(w.setCells g o vs).os=w.os/\(w.setCells g o vs).tape=w.tape/\(w.setCells g o vs).output=w.output:=by
 intro vs;induction vs with
 |nil=>intro w o;exact⟨rfl,rfl,rfl⟩
 |cons v vs ih=>intro w o;exact ih (w.setCell ⟨g,o,none⟩ v) (o+1)
theorem qx (w:World) (g o:Nat) (vs:List Value):w.grownBy (w.setCells g o vs) (some g):=
 ⟨(gF vs w o).1,(gF vs w o).2.1,(gF vs w o).2.2,by rw [setCells_size];exact aEx _,λk _ hne=>qy (λe=>hne Aao) vs w o⟩
theorem qz (a m b vs:List Value) (h:vs.length=m.length):GR.setRun (a++(m++b)) a.length vs=a++(vs++b):=by
 have:=GR.setRun_append_right a vs 0 (m++b);rw [aF2] at this;rw [this,GR.setRun_head vs m b h]
def xM (ks:List ByteArray) (i:Nat) (key:ByteArray):List Value:=(ks.map Value.string).take i++(.string key::(ks.map Value.string).drop i)
theorem nS (ks:List ByteArray) (i:Nat) (key:ByteArray) (hi:i<=ks.length):(xM ks i key).length=ks.length+1:=by
 unfold xM;simp;omega
theorem AQ (ks:List ByteArray):∀v∈ks.map Value.string,v.oneCell'=true:=by
 intro v hv;obtain⟨k,_,rfl⟩:=aFS.1 hv;rfl
theorem axN (B:Nat) (v:Value) (l:List Pu) (key:ByteArray) (w:World) (hp:l.Pairwise Oz) (hl:l.length<=20) (h:w.ownsRow B 9 1 v l.length ((l.map (·.k)).map Value.string)):
 Calls Tryz.prog 316 #[v,.string key] w λe w'=>e= .returned (.tuple #[.int .i64 (place l key:Nat),.bool (found l key)])/\∃q,w'=w.drewN q:=by
 by_cases h0:l.length=0
 .have hl0:l=[]:=aEZ h0;subst hl0
  have hv:∃a c,v= .slice a 0 c:=by
   rcases h.2 with⟨rfl,_⟩|⟨g,cap,cur,rfl,_⟩
   .exact⟨none,0,rfl⟩
   .exact⟨_,_,rfl⟩
  obtain⟨a,c,rfl⟩:=hv;exact(Any2.slices_BinarySearch_string_empty F5 a c key w).mono λe w' ⟨he,hw⟩=>⟨by rw [he];rfl,0,hw⟩
 .obtain⟨g,cap,rfl,_,_⟩:=h.form Aaa
  have hb:=Any2.slices_BinarySearch_string F5 g 0 l.length cap (Aj l key) key w Aaa (λj hj=>by
   have hc:=h.cellAt j Aaa
   rw [aFq,hc]
   unfold Aj
   simp[hj])
  rw [abw hp key,Py l key] at hb;exact hb
theorem MW {cap:Nat} {i:Nat} {key:ByteArray} {bs:List Value} (hi:i<=ks.length) (hg:B<=g) (hcap:ks.length+1<=cap) (hcm:cap<=maxLen) (hlen:(xM ks i key++bs).length=cap) (h:w.heap[g]?=some (.cells (xM ks i key++bs).toArray 9 (0,0))):w.ownsRow B 9 1 (.slice (some ⟨g,0,none⟩) (ks.length+1) cap) (ks.length+1) (xM ks i key):=by
 have hl:=nS ks i key hi;refine⟨Aaa,.inr ⟨g,cap,_,rfl,hg,h,hcap,hcm,by rw [aFs];omega,?_⟩⟩;rw [List.toList_toArray,Nat.mul_one,<-hl,List.take_left'];rfl
theorem uW (n:Nat):(Builtin.zeroCells (Value.string ⟨#[]⟩).cells n).toList.length=n:=by
 rw [aE9,size_zeroCells];simp[Value.cells]
theorem BX (w:World) (o:Obj) (row:Option Nat):w.grownBy (w.drew.alloc o) row:=
 ⟨rfl,rfl,rfl,Aac,λk hk _=>aEI w.drew _ _ hk⟩
theorem Qy (ks:List ByteArray) (key:ByteArray):xM ks ks.length key=ks.map Value.string++[.string key]:=by
 unfold xM;rw [aFX Aac,List.drop_of_length_le Aac]
theorem FU (B:Nat) (base:Option Addr) (c:Nat) (ks:List ByteArray) (key:ByteArray) (vb:Nat) (w:World) (hn:ks.length<=20) (hB:B<=w.heap.size) (hnc:ks.length<=c) (hroom:c < ks.length+1) (hnil:base=none->ks.length=0) (hcs:∀a,base=some a->∀(j:Nat) (v:Value),(ks.map Value.string)[j]?=some v->w.cell? (a.add j)=some v) (hvs:∀(j:Nat) (u:Value),[Value.string key][j]?=some u->w.cell? ⟨vb,0+j,none⟩=some u) (h1v:∀u∈[Value.string key],u.oneCell'=true) (row:Option Nat):
 Calls Tryz.prog 317 #[.slice base ks.length c,.int .i64 (ks.length:Nat),.slice (some ⟨vb,0,none⟩) 1 1] w λe w'=>∃v',e= .returned v'/\w'.ownsRow B 9 1 v' (ks.length+1) (xM ks ks.length key)/\w.grownBy w' row:=by
 refine(Any2.slices_Insert_string_end_grow uG base ks.length c vb 0 1 1 (ks.map Value.string) [.string key] w Aaa hnc hroom Aaa Aac rfl hnil hcs hvs h1v).mono λe w' ⟨he,hw⟩=>?_
 have hge:=grownCap_ge w (ks.length+1) c (vw.t 9);have hle:=grownCap_le_maxLen w (ks.length+1) c (vw.t 9) Aai;refine⟨_,he,?_,by rw [hw];exact BX w _ row⟩;generalize grownCap w (ks.length+1) c (vw.t 9)=cap at *;refine MW (w:=w') (bs:=(Builtin.zeroCells (Value.string ⟨#[]⟩).cells (cap - (ks.length+1))).toList) (aEx _) hB hge hle ?_ ?_
 .rw [aEC,uW,nS _ _ _ (aEx _)];omega
 .rw [hw];have:=aEu w.drew (.cells ((ks.map Value.string++[Value.string key]).toArray++Builtin.zeroCells (Value.string ⟨#[]⟩).cells (cap - (ks.length+1))) (vw.t 9));refine Eq.trans this ?_;rw [Qy]
  have e:(ks.map Value.string++[Value.string key]).toArray++Builtin.zeroCells (Value.string ⟨#[]⟩).cells (cap - (ks.length+1))=(ks.map Value.string++[Value.string key]++(Builtin.zeroCells (Value.string ⟨#[]⟩).cells (cap - (ks.length+1))).toList).toArray:=by
   apply Array.toList_inj.1
   simp
  rw [e];rfl
theorem alj (B:Nat) (v:Value) (ks:List ByteArray) (i:Nat) (key:ByteArray) (vb:Nat) (w:World) (hi:i<=ks.length) (hn:ks.length<=20) (hB:B<=w.heap.size) (h:w.ownsRow B 9 1 v ks.length (ks.map Value.string)) (hv:w.heap[vb]?=some (.cells #[.string key] 9 (0,0))) (hvb:v.ownBlock≠some vb):
 Calls Tryz.prog 317 #[v,.int .i64 (i:Nat),.slice (some ⟨vb,0,none⟩) 1 1] w λe w'=>∃v',e= .returned v'/\w'.ownsRow B 9 1 v' (ks.length+1) (xM ks i key)/\w.grownBy w' v.ownBlock:=by
 have hvs:∀(j:Nat) (u:Value),[Value.string key][j]?=some u->w.cell? ⟨vb,0+j,none⟩=some u:=λj u hu=>by
  rw [aEz w vb _ _ 9 (0,0) hv,aFq]
  simpa using hu
 have h1v:∀u∈[Value.string key],u.oneCell'=true:=λu hu=>by rw [aEM.1 hu];rfl
 have hfree:∀j,w.frozen? ⟨vb,j,none⟩=false:=λj=>by unfold World.frozen?;rw [hv];simp
 have hsa:w.shape? vb=some (9,1):=by unfold World.shape?;rw [hv];rfl
 rcases h.2 with⟨rfl,h0⟩|⟨g,cap,cur,rfl,hg,hblk,hnc,hcm,hcs,htk⟩
 .have hi0:i=ks.length:=Aaa
  subst hi0;have:=FU B none 0 ks key vb w hn hB Aaa Aaa (λ_=>h0) (λa ha=>by cases ha) hvs h1v none;rw [h0] at this ⊢;exact this
 have aCu:vb≠g:=λe=>hvb (by rw [e];rfl)
 obtain⟨sp,hcur⟩:∃sp,cur.toList=ks.map Value.string++sp:=⟨cur.toList.drop ks.length,by
  rw [Nat.mul_one] at htk
  rw [<-htk,aFm]⟩
 have hblk2:w.heap[g]?=some (.cells (ks.map Value.string++sp).toArray 9 (0,0)):=by rw [hblk,<-hcur]
 have acg:ks.length+sp.length=cap:=by
  have:=congrArg List.length hcur;rw [aE9,hcs] at this;simp at this;omega
 have hcell:∀j,w.cell? ⟨g,j,none⟩=(ks.map Value.string++sp)[j]?:=λj=>by
  rw [aEz w g j _ 9 (0,0) hblk2]
  simp
 have hfz:∀j,w.frozen? ⟨g,j,none⟩=false:=λj=>by unfold World.frozen?;rw [hblk2];simp
 have akR:∀(j:Nat) (u:Value),(ks.map Value.string)[j]?=some u->w.cell? ⟨g,0+j,none⟩=some u:=λj u hu=>by
  rw [aFq,hcell,aFO (aFh.1 hu).1]
  exact hu
 rcases aFD i ks.length with hlt|hge
 .obtain⟨ra,hra⟩:∃ra,ra=(ks.map Value.string).take i:=⟨_,rfl⟩;obtain⟨rb,hrb⟩:∃rb,rb=(ks.map Value.string).drop i:=⟨_,rfl⟩;have hsplit:ks.map Value.string=ra++rb:=by rw [hra,hrb,aFm]
  have ayr:ra.length=i:=by rw [hra];simp;omega
  have aDR:rb.length=ks.length - i:=by rw [hrb];simp
  have hins:xM ks i key=ra++(.string key::rb):=by unfold xM;rw [<-hra,<-hrb]
  by_cases hroom:ks.length+1<=cap
  .have hsb:w.shape? g=some (9,cap):=by unfold World.shape?;rw [hblk2];simp;omega
   refine(Any2.slices_Insert_string_shift uG g 0 ks.length cap i vb 0 1 1 (ks.map Value.string) [.string key] w hlt Aaa hroom Aby aCu Aac rfl akR
    (λj hj=>by rw [aFq,hcell];simp;omega) (λj _=>hfz _) hvs (AQ ks) h1v 9 9 1 cap hsa hsb Aaa (hfree _) (hfree _)).mono λe w' ⟨he,hw⟩=>?_
   obtain⟨s0,sp',hsp⟩:∃s0 sp',sp=s0::sp':=by
    exact ai7
   obtain⟨x0,A,hxA,hAl⟩:∃x0 A,rb++[s0]=x0::A/\A.length=rb.length:=by
    cases hb:rb++[s0] with
    |nil=>simp at hb
    |cons x0 A=>
     refine⟨x0,A,rfl,?_⟩;have:=congrArg List.length hb;simp at this;omega
   have hxs:ks.map Value.string++sp=(ra++[x0])++(A++sp'):=by
    rw [hsplit,hsp];have:ra++rb++s0::sp'=ra++((rb++[s0])++sp'):=Aac
    rw [this,hxA];simp
   have e1:GR.setRun (ks.map Value.string++sp) (0+(i+1)) rb=(ra++[x0])++(rb++sp'):=by
    rw [hxs];have:=qz (ra++[x0]) A sp' rb hAl.symm;rw [show(ra++[x0]).length=0+(i+1) by simp;omega] at this;exact this
   have e2:GR.setRun ((ra++[x0])++(rb++sp')) (0+i) [.string key]=xM ks i key++sp':=by
    have:=qz ra [x0] (rb++sp') [.string key] rfl;rw [ayr] at this;rw [aFq,hins];have e:(ra++[x0])++(rb++sp')=ra++([x0]++(rb++sp')):=Aac
    rw [e,this];simp
   refine⟨_,he,MW (bs:=sp') hi hg hroom hcm ?_ ?_,?_⟩
   .rw [aEC,nS ks i key hi];rw [hsp] at acg;simp at acg;omega
   .rw [hw,<-hrb];have h1:=lX rb (w:=w.drew) (o:=0+(i+1)) hblk2;rw [e1] at h1;have h2:=lX [.string key] (o:=0+i) h1;rw [e2] at h2;exact h2
   .rw [hw];have h1:=qx w.drew g (0+(i+1)) ((ks.map Value.string).drop i);have h2:=qx (w.drew.setCells g (0+(i+1)) ((ks.map Value.string).drop i)) g (0+i) [.string key];exact⟨h2.os.trans h1.os,h2.tape.trans h1.tape,h2.output.trans h1.output,aEA h1.size h2.size,λk hk hne=>(h2.block k (aEH hk h1.size) hne).trans (h1.block k hk hne)⟩
  .have aDg:cap=ks.length:=Aaa
   refine(Any2.slices_Insert_string_grow uG g 0 ks.length cap i vb 0 1 1 (ks.map Value.string) [.string key] w hlt Aaa hnc Aaa Aaa Aac rfl akR hvs (AQ ks) h1v).mono λe w' ⟨he,hw⟩=>?_
   have hge:=grownCap_ge w (ks.length+1) cap (vw.t 9);have hle:=grownCap_le_maxLen w (ks.length+1) cap (vw.t 9) Aai;generalize grownCap w (ks.length+1) cap (vw.t 9)=cap' at *;obtain⟨z1,hz1⟩:∃z1,z1=(Builtin.zeroCells (Value.string ⟨#[]⟩).cells (ks.length+1 - i)).toList:=⟨_,rfl⟩;obtain⟨z2,hz2⟩:∃z2,z2=(Builtin.zeroCells (Value.string ⟨#[]⟩).cells (cap' - (ks.length+1))).toList:=⟨_,rfl⟩;have afp:z1.length=ks.length+1 - i:=by rw [hz1,uW]
   have DV:z2.length=cap' - (ks.length+1):=by rw [hz2,uW]
   obtain⟨x0,A,hxA⟩:∃x0 A,z1=x0::A:=by
    cases z1 with
    |nil=>simp at afp;omega
    |cons x0 A=>exact⟨x0,A,rfl⟩
   have hAl:A.length=rb.length:=by rw [hxA] at afp;simp at afp;omega
   have hall:(w.alloc (.cells (((ks.map Value.string).take i).toArray++Builtin.zeroCells (Value.string ⟨#[]⟩).cells (ks.length+1 - i)++Builtin.zeroCells (Value.string ⟨#[]⟩).cells (cap' - (ks.length+1))) (vw.t 9))).heap[w.heap.size]?=some (.cells (ra++([x0]++(A++z2))).toArray 9 (0,0)):=by
    refine Eq.trans (aEu w _) ?_
    have e:((ks.map Value.string).take i).toArray++Builtin.zeroCells (Value.string ⟨#[]⟩).cells (ks.length+1 - i)++Builtin.zeroCells (Value.string ⟨#[]⟩).cells (cap' - (ks.length+1))=(ra++([x0]++(A++z2))).toArray:=by
     apply Array.toList_inj.1
     rw [aGf,aGf,<-hz1,<-hz2,hxA,hra];simp
    rw [e];rfl
   have e1:GR.setRun (ra++([x0]++(A++z2))) i [.string key]=(ra++[.string key])++(A++z2):=by
    have:=qz ra [x0] (A++z2) [.string key] rfl;rw [ayr] at this;rw [this];simp
   have e2:GR.setRun ((ra++[.string key])++(A++z2)) (i+1) rb=xM ks i key++z2:=by
    have:=qz (ra++[.string key]) A z2 rb hAl.symm;rw [show(ra++[Value.string key]).length=i+1 by simp;omega] at this;rw [this,hins];simp
   refine⟨_,he,MW (bs:=z2) hi hB hge hle ?_ ?_,?_⟩
   .rw [aEC,nS ks i key hi];omega
   .rw [hw,<-hrb];have h1:=lX [.string key] (w:=(w.alloc (.cells (((ks.map Value.string).take i).toArray++Builtin.zeroCells (Value.string ⟨#[]⟩).cells (ks.length+1 - i)++Builtin.zeroCells (Value.string ⟨#[]⟩).cells (cap' - (ks.length+1))) (vw.t 9))).drew) (o:=i) hall;rw [e1] at h1;have h2:=lX rb (w:=((w.alloc (.cells (((ks.map Value.string).take i).toArray++Builtin.zeroCells (Value.string ⟨#[]⟩).cells (ks.length+1 - i)++Builtin.zeroCells (Value.string ⟨#[]⟩).cells (cap' - (ks.length+1))) (vw.t 9))).drew.setCells w.heap.size i [.string key]).drew) (o:=i+1) h1;rw [e2] at h2;exact h2
   .rw [hw];refine⟨?_,?_,?_,?_,?_⟩
    .rw [(gF _ _ _).1];exact(gF _ _ _).1
    .rw [(gF _ _ _).2.1];exact(gF _ _ _).2.1
    .rw [(gF _ _ _).2.2];exact(gF _ _ _).2.2
    .rw [setCells_size];refine aEA ?_ (Nat.le_of_eq (setCells_size _ _ _).symm);show w.heap.size<=(w.alloc _).heap.size
     simp
    .intro k hk _;rw [qy Aaa];refine(qy (g:=w.heap.size) (g':=k) Aaa _ _ _).trans ?_;exact aEI w _ _ hk
 .have hie:i=ks.length:=Aaa
  subst hie;by_cases hroom:ks.length+1<=cap
  .refine(Any2.slices_Insert_string_end_room uG g 0 ks.length cap vb 0 1 1 [.string key] w Aaa hroom Aby rfl
    (λj hj=>by rw [aFq,hcell];simp;omega) (λj _=>hfz _) hvs h1v).mono λe w' ⟨he,hw⟩=>?_
   obtain⟨s0,sp',hsp⟩:∃s0 sp',sp=s0::sp':=by
    exact ai7
   have e1:GR.setRun (ks.map Value.string++sp) (0+ks.length) [.string key]=xM ks ks.length key++sp':=by
    have:=qz (ks.map Value.string) [s0] sp' [.string key] rfl;rw [aFo] at this;rw [aFq,hsp,Qy];have e:ks.map Value.string++s0::sp'=ks.map Value.string++([s0]++sp'):=Aac
    rw [e,this];simp
   refine⟨_,he,MW (bs:=sp') (aEx _) hg hroom hcm ?_ ?_,by rw [hw];exact qx w g (0+ks.length) [.string key]⟩
   .rw [aEC,nS ks _ key (aEx _)];rw [hsp] at acg;simp at acg;omega
   .rw [hw];have h1:=lX [.string key] (w:=w) (o:=0+ks.length) hblk2;rw [e1] at h1;exact h1
  .exact FU B (some ⟨g,0,none⟩) cap ks key vb w hn hB hnc Aaa (λha=>by cases ha) (λa ha j u hu=>by
    injection ha with ha
    subst ha
    have e:(⟨g,0,none⟩:Addr).add j=⟨g,0+j,none⟩:=by unfold Addr.add;split<;>simp_all
    rw [e]
    exact akR j u hu) hvs h1v (some g)
open Go.RowKit Go.Maps
structure PM (w:World) (B mp mb n:Nat) (v:Value) (ks:List ByteArray) (G:ByteArray->Pu):Prop where
 blk:w.heap[mp]?=some (.cells #[v,.map (some mb)] 392 (0,0))
 row:w.ownsRow B 9 1 v ks.length (ks.map Value.string)
 map:iA w mb n G
 lop:B<=mp
 lom:B<=mb
theorem own_ne {t:TypeId} {cs:Array Value} {fr:Nat×Nat} (h:w.ownsRow B 9 1 v n xs) (hg:w.heap[g]?=some (.cells cs t fr)) (ht:t≠9):v.ownBlock≠some g:=by
 rcases h.2 with⟨rfl,_⟩|⟨g',cap,cur,rfl,_,hb,_⟩
 .intro e;cases e
 .intro e;injection e with e
  have e':g'=g:=e;subst e';rw [hg] at hb;injection hb with hb
  injection hb with h1 h2 h3
  exact ht h2
theorem yX {es:Array MapEntry} {clock:Nat} (h:w.ownsRow B 9 1 v n xs) (hg:w.heap[g]?=some (.map es clock)):v.ownBlock≠some g:=by
 rcases h.2 with⟨rfl,_⟩|⟨g',cap,cur,rfl,_,hb,_⟩
 .intro e;cases e
 .intro e;injection e with e
  have e':g'=g:=e;subst e';rw [hg] at hb;cases hb
theorem iA.blk (h:iA w mb n G):∃es clock,w.heap[mb]?=some (.map es clock):=by
 obtain⟨D,⟨es,clock,h1,_⟩,_⟩:=h;exact⟨es,clock,h1⟩
theorem PM.mpmb (h:PM w B mp mb n v ks G):mp≠mb:=by
 obtain⟨es,clock,hb⟩:=h.map.blk;intro e;have:=h.blk;rw [e,hb] at this;cases this
theorem PM.below (h:PM w B mp mb n v ks G) (hb:aG w w'):PM w' B mp mb n v ks G:=by
 have hg:w.grownBy w' none:=⟨hb.os,hb.tape,hb.output,hb.size,λk hk _=>hb.block k hk⟩;refine⟨?_,?_,?_,h.lop,h.lom⟩
 .rw [hb.block _ (Fo.lt_of_blk h.blk)];exact h.blk
 .refine h.row.kept hg ?_;exact ai8
 .exact h.map.kept (hb.block _ h.map.lt)
theorem PM.drewN {q:Nat} (h:PM w B mp mb n v ks G):PM (w.drewN q) B mp mb n v ks G:=⟨h.blk,h.row,h.map,h.lop,h.lom⟩
theorem PM.turned {n':Nat} {G':ByteArray->Pu} (h:PM w B mp mb n v ks G) (hk:Keeps mb w w') (hm:iA w' mb n' G'):PM w' B mp mb n' v ks G':=by
 have hg:w.grownBy w' (some mb):=⟨hk.os,hk.tape,hk.output,hk.size,λk hl hne=>hk.block k hl (λe=>hne Aao)⟩;obtain⟨es,clock,hb⟩:=h.map.blk;refine⟨?_,?_,hm,h.lop,h.lom⟩
 .rw [hk.block _ (Fo.lt_of_blk h.blk) h.mpmb];exact h.blk
 .refine h.row.kept hg (.inr (yX h.row hb))
theorem Dc (hk:Keeps g w w') (hg:B<=g) (hB:B<=w.heap.size):Below B w w':=⟨hk.os,hk.tape,hk.output,hk.size,λk hl=>hk.block k Aaa Aaa⟩
def Qv (l:List Pu) (key:ByteArray):List ByteArray:=(l.map (·.k)).take (place l key)++key::(l.map (·.k)).drop (place l key)
theorem acE (l:List Pu) (key:ByteArray):xM (l.map (·.k)) (place l key) key=(Qv l key).map Value.string:=by
 unfold xM Qv;simp
theorem Da (l:List Pu) (key:ByteArray):(Qv l key).length=l.length+1:=by
 unfold Qv;have:=lV l key;simp;omega
theorem Np {l:List Pu} (h:found l p.k=false):(iQ l p).map (·.k)=Qv l p.k:=by
 rw [yh h];unfold Qv;simp
theorem Us (B mp mb n:Nat) (v:Value) (l:List Pu) (G:ByteArray->Pu) (key:ByteArray) (E:Nat->Addr) (w:World) (hp:l.Pairwise Oz) (hl:l.length<=20) (hB:B<=w.heap.size) (h:PM w B mp mb n v (l.map (·.k)) G) (he:gX w E):
 Calls Tryz.prog 311 #[.pointer (some ⟨mp,0,none⟩),.string key] w λe w'=>Below B w w'/\(∀k,k < w.heap.size->k≠mp->v.ownBlock≠some k->w'.heap[k]?=w.heap[k]?)/\
  ((found l key=true/\e= .returned .nilIface/\PM w' B mp mb n v (l.map (·.k)) G)\/
   (found l key=false/\l.length=20/\e= .returned (um (E 5)))\/
   (found l key=false/\l.length < 20/\e= .returned .nilIface/\∃v',PM w' B mp mb n v' (Qv l key) G)):=by
 have hrow:=h.row;rw [aFo] at hrow
 obtain⟨a,cap,rfl⟩:∃a cap,v= .slice a l.length cap:=by
  exact aiP
 have HBS:=Hq (axN B _ l key w hp hl hrow);have hmp:=Fo.lt_of_blk h.blk;have hmb:=h.map.lt;obtain⟨⟨m0,m1⟩,f0,f1⟩:=lY h.blk;have ve:=he.var 5 Aaa;have HH:=Hq h;have HR:=Hq hrow;clear h hrow he;cases hf:found l key
 .by_cases h20:l.length=20
  .have aym:((l.length:Int) == 20)=true:=Aae
   have H20:=Hq h20;clear h20;open atm in exact aaM
  .have aym:((l.length:Int) == 20)=false:=Aae
   open atl in exact aaM
 .open atj in exact aaM
theorem VL {b off:Nat} {l:List Pu} (h:aH w (some ⟨b,off,none⟩) l) (k:Nat):aH w (some ⟨b,off+k*4,none⟩) (l.drop k):=λi hi=>by
 have hi':k+i < l.length:=Abq
 obtain⟨g,o,e,hg,hc⟩:=h (k+i) hi';injection e with e
 injection e with e1 e2
 subst e1 e2;refine⟨b,off+k*4,rfl,hg,λj hj=>?_⟩;have:=hc j hj;rw [show off+k*4+(i*4+j)=off+((k+i)*4+j) by omega,this];simp
theorem aea {a:Option Addr} {l:List Pu} (h:aH w a l) (k:Nat):aH w a (l.take k):=λi hi=>by
 have hi':i < l.length:=Abq
 obtain⟨g,o,e,hg,hc⟩:=h i hi';refine⟨g,o,e,hg,λj hj=>?_⟩;rw [hc j hj];simp
theorem VN {a:Option Addr} {l:List Pu} (h:l=[]):aH w a l:=λi hi=>by rw [h] at hi;simp at hi
theorem Mth.tail_found {l:List Pu} {k:ByteArray} (h:found l k=true):place l k < l.length/\kK l k=l.drop (place l k+1):=by
 have hpl:=lV l k;by_cases hlt:place l k < l.length
 .refine⟨hlt,?_⟩;unfold found at h;unfold kK;rw [jq,aFw hlt] at h ⊢;dsimp only at h ⊢;rw [aER h]
 .unfold found at h;rw [jq,aFM Aaa] at h;cases h
theorem Mth.tail_not {l:List Pu} {k:ByteArray} (h:found l k=false):kK l k=l.drop (place l k):=by
 unfold found at h;unfold kK;rw [jq] at h ⊢;cases hd:l.drop (place l k) with
 |nil=>rfl
 |cons q r=>
  rw [hd] at h;dsimp only at h ⊢;rw [h];rfl
theorem Mth.put_flat (l:List Pu) (p:Pu):GR.flat fO (l.take (place l p.k))++fO p++GR.flat fO (kK l p.k)=GR.flat fO (iQ l p)/\place l p.k+1+(kK l p.k).length=(iQ l p).length:=by
 have hpl:=lV l p.k;unfold iQ;rw [head_take];constructor
 .rw [GR.flat_append,GR.flat_cons,aFa]
 .simp;omega
theorem Mth.put_mem' {l:List Pu} (h:q∈iQ l p):q=p\/q∈l:=by
 exact ahS
theorem Mth.tail_len:(kK l k).length<=l.length:=by
 cases h:found l k
 .rw [tail_not h];simp
 .rw [(tail_found h).2];simp
theorem oC {P:Program} (w:World) {ops:Array Oper} {o:Oper} {a:Act} {K:Act->World->Prop} {Q:Exit->Act->World->Prop} {E:Prop} (hgd:o.guard=none) (s x:Operand) (t:TypeId)
 (ho:o.op= .call {callee:= .builtin .append,args:=#[s,x],argTypes:=#[t,t]})
 (base:Nat) (e:TypeId) (i:TypeInfo) (z:Value) (size bytes:Nat) (ht:P.underlying t=some (.slice e)) (hi:P.info? e=some i) (hz:i.zero=some z)
 (hsize:i.size=size) (hby:i.bytes=bytes) (hzs:z.cells.size=size) (hsz:0 < size)
 (v:Value) (n:Nat) (xs:List Value) (hs:a.eval s=v) (hown:w.ownsRow base e size v n xs)
 (ad:Addr) (m c:Nat) (news:List Value) (hx:a.eval x= .slice (some ad) m c) (hl:news.length=m*size) (hnews:∀j u,news[j]?=some u->w.cell? (ad.add j)=some u) (h1:∀u∈news,u.oneCell'=true)
 (h63:n+m<=maxLen) (hbytes:(n+m)*bytes<=140737488355328) (hbase:base<=w.heap.size)
 (h:∀v' w',w'.ownsRow base e size v' (n+m) (xs++news)->w.grownBy w' v.ownBlock->(v'= .slice none 0 0↔v= .slice none 0 0/\m=0)->K (a.put o.dst v') w'):
 if Region.wanted o (yielded ops a.tmps)=true then Oper.wp P o a w K Q else E:=by
 exact ahO
theorem uy {row:Option Nat} (hk:w.grownBy w' row) (hg:∀k,row=some k->B<=k) (hB:B<=w.heap.size):Below B w w':=⟨hk.os,hk.tape,hk.output,hk.size,λk hl=>hk.block k Aaa (λe=>by have:=hg k e.symm;omega)⟩
theorem J6 (p:Pu):∀u∈fO p,u.oneCell'=true:=by
 intro u hu;simp only[fO,aET,aFt,or_false] at hu;rcases hu with rfl|rfl|rfl|rfl<;>rfl
theorem adb (v:Value):v.ownBlock=none\/v.ownBlock≠none:=by
 exact ai8
theorem BL (w:World) (a b:Nat):(w.drewN a).drewN b=w.drewN (a+b):=by
 simp[World.drewN,aE5]
theorem Mth.place_at (l:List Pu) (key:ByteArray) (k:Nat) (hk:k<=l.length) (h1:∀q∈l.take k,Op.bytesLess q.k.toList key.toList=true) (h2:∀h:k < l.length,Op.bytesLess l[k].k.toList key.toList=false):place l key=k/\lG l key=l.drop k:=by
 obtain⟨e1,e2⟩:=adW (λq=>Op.bytesLess q.k.toList key.toList) l k hk h1 h2;unfold place vW lG;rw [e1,e2];exact⟨Aae,rfl⟩
theorem UH (b off:Nat) (cap:Nat) (l:List Pu) (p:Pu) (n:Int) (w:World) (hcap:l.length<=cap) (hk:∀p∈l,p.k.size<=maxLen) (hpk:p.k.size<=maxLen) (ha:aH w (some ⟨b,off,none⟩) l) (hok:iZ l=true) (hn:1<=n/\n<=1000000000):
 Calls Tryz.prog 167 #[.slice (some ⟨b,off,none⟩) l.length cap,xO p,.int .i64 n] w λe w'=>∃v,e= .returned (.tuple #[v,.bool (rC l p n).2])/\v≠ .slice none 0 0/\w'.ownsRow w.heap.size 142 4 v (rC l p n).1.length (GR.flat fO (rC l p n).1)/\aG w w':=by
 have hl:l.length<=20:=((jQ l).1 hok).2.2;have nD:=Hq (λw1 (h:aH w1 (some ⟨b,off,none⟩) l)=>pE (some ⟨b,off,none⟩) cap l w1 Aaa hk h);have HA:=Hq ha;have hn2:decide (yB n 1 1000000000)=true:=aEy hn;have HW:=Hq (show rC l p n=if iZ (iQ l p) then(iQ l p,true) else(l,false) by unfold rC;rw [hok,aEy hn];rfl);clear ha hn;obtain⟨pk,pm,pf,ps⟩:=p;go_in
 go_wp2_with fail;refine(nD _ (GR.At.below HA (aV w _))).mono ?_;rintro e w1 ⟨rfl,hb1⟩;have kU:=Hq (show w1.heap[w.heap.size]?=some (.cells (iK pk pm pf ps) 142 (0,0)) by rw [hb1.block w.heap.size Aac];exact aEu w _);have HB1:=Hq ((aV w _).trans (hb1.mono (aV w _).size))
 have hbw:b < w1.heap.size\/l.length=0:=by
  rcases Nat.eq_zero_or_pos l.length with h|h
  .exact .inr h
  .obtain⟨g,o,e,hg,_⟩:=ah HA 0 h;injection e with e
   injection e with e1 e2
   subst e1;exact .inl (aEH hg HB1.size)
 clear hb1;rw [hok];clear hok;go_wp2_with fail;refine(UF _ _ _ _).mono ?_;rintro e w3 ⟨rfl,rfl⟩;rw [hn2];go_upto_block 0 with fail;go_cut [8] (λi wx=>i= .int .i64 (place l pk:Nat)/\∃q,wx=w1.drewN q)
 case first=>
  go_wp2_with fail;go_loopw [8] (λi wr=>∃k q:Nat,k<=l.length/\i= .int .i64 k/\(∀x∈l.take k,Op.bytesLess x.k.toList pk.toList=true)/\wr=w1.drewN q) (λi _=>l.length - (intOf i).toNat)
  case atStart=>exact⟨0,0,aEN _,rfl,λx hx=>Aay,rfl⟩
  case round=>
   obtain⟨k,q,hk1,rfl,hall,rfl⟩:=hrel;have kS:=Hq hall;clear hall;open ar4 in exact agG
 case rest=>
  obtain⟨rfl,q,rfl⟩:=hcut;have hpl:=lV l pk
  obtain⟨ad,hAd,hAe⟩:∃ad:Addr,(if cap=place l pk then some (⟨b,off,none⟩:Addr) else some ⟨b,off+place l pk*4,none⟩)=some ad/\(place l pk < l.length->ad=⟨b,off+place l pk*4,none⟩):=by
   by_cases h:cap=place l pk
   .rw [aER h];exact⟨_,rfl,λh2=>Aaa⟩
   .rw [aEG h];exact⟨_,rfl,λ_=>rfl⟩
  open ar3 in exact agG
theorem aBI:Tryz.prog.globalNamed "errors.errorType" =some 0:=Aab
theorem alD:(Tryz.prog.cutTypes.find? (·.1 == "internal/reflectlite.rtype")).map (·.2)=some 377:=Aab
theorem aly:((List.range 438).filter λt=>Tryz.prog.rowNamed t [101,114,114,111,114])=[284]:=Aab
theorem ZY:Tryz.prog.types.size=438:=Aab
theorem Yp {l:List (String×DataW Unit)} (h:handlesMet Tryz.prog l W) (hm:("errors.errorType",Rows.laid_errors_errorType)∈l):Handle W:=by
 obtain⟨name,u,ty,e1,e2,e3,e4,e5⟩:=h _ hm;have en:name=[101,114,114,111,114]:=(aFe e1).symm;subst en;obtain rfl:=aFe (alD.symm.trans e2);have hm:ty∈(List.range 438).filter λt=>Tryz.prog.rowNamed t [101,114,114,111,114]:=aGn.2 ⟨aFA.2 (by rw [<-ZY];exact e3),e4⟩
 rw [aly] at hm;obtain rfl:=aEM.1 hm;have hh:typeHandle Tryz.prog 284= .pointer (some ⟨6,284,none⟩):=Aab
 rw [hh] at e5;have:=World.var?_cell aBI e5 0;unfold Handle;simpa using this
theorem Uk:(Tryz.prog.globals[3]?).map (·.type)=some 284:=Aab
theorem afi:(Tryz.prog.globals[1]?).map (·.type)=some 284:=Aab
theorem Uj:(Tryz.prog.globals[2]?).map (·.type)=some 284:=Aab
theorem afh:(Tryz.prog.globals[4]?).map (·.type)=some 284:=Aab
theorem abV:(Tryz.prog.globals[5]?).map (·.type)=some 284:=Aab
theorem Yl:Tryz.prog.globalNamed "loop.example/g00264/impl.errNoPurses" =some 3:=Aab
theorem akI:Tryz.prog.globalNamed "loop.example/g00264/impl.errNoKey" =some 1:=Aab
theorem Yk:Tryz.prog.globalNamed "loop.example/g00264/impl.errNoAmount" =some 2:=Aab
theorem akH:Tryz.prog.globalNamed "loop.example/g00264/impl.errFewer" =some 4:=Aab
theorem afg:Tryz.prog.globalNamed "loop.example/g00264/impl.errBeyond" =some 5:=Aab
theorem abx:Tryz.prog.cellsOf 427=1:=Aab
theorem aby:Tryz.prog.cellsOf 9=1:=Aab
theorem Xw: "*" ++ "errors.errorString" = "*errors.errorString" :=Aag
theorem alC (u:TypeId) (h:Tryz.prog.typeName? 3 u=some "*errors.errorString"):u=409:=
 typeName_ptr_named (nm:= "errors.errorString") (by rw [Xw];kernel_rfl) Aab Aag u (by rw [Xw];exact h)
theorem Rj {n:String} {text:List UInt8} {r:List (String×DataW Unit)} (h:laidMet Tryz.prog ((n,.iface "*errors.errorString" (.ptr (.agg [.lit (.string text)])))::r) W) (hg:Tryz.prog.globalNamed n=some g) (ht:(Tryz.prog.globals[g]?).map (·.type)=some 284):
 ∃(a:Addr) (s:ByteArray) (c:Array Value) (t:TypeId),W.cell? ⟨g,0,none⟩=some (um a)/\W.cell? a=some (.string s)/\s.data.toList=text/\W.heap[a.block]?=some (.cells c t (0,0)):=by
 obtain⟨ps,⟨g0',t0',cs0,f0,p0,q0,hg0',ht0',hv0,hd0,_,e0⟩,hnd,hrows⟩:=h;obtain rfl:=aFe (hg.symm.trans hg0');obtain rfl:=aFe (ht.symm.trans ht0');subst e0;obtain⟨l0⟩:=cs0
 have ok0:∀u v,l0=[.iface u v]->Value.okWide Tryz.prog W .any 0 u v:=λu v e=>by
  subst e
  exact(hrows g 0 (by simp[MemPlace.row])).2 u v (by simpa using World.var?_cell hg0' hv0 0)
 obtain⟨a0,s0,rfl,hc0,hs0,hz0,rfl⟩:=errorString_of_trod Tryz.underlying284 alC Tryz.underlying409 Tryz.underlying427 rfl rfl Tryz.underlying9 abx aby hd0 ok0;obtain⟨c0,t0,hb0⟩:=(hrows a0.block a0.off (by simp[MemPlace.row])).1;exact⟨a0,s0,c0,t0,by simpa using World.var?_cell hg0' hv0 0,hc0,hs0,hb0⟩
theorem apart {a b:Addr} {s t:ByteArray} (ha:W.cell? a=some (.string s)) (hb:W.cell? b=some (.string t)) (hne:s.data.toList≠t.data.toList):a≠b:=λe=>by
 rw [e,hb] at ha;iterate 2 (injection ha with ha)
 exact hne (by rw [ha])
theorem abK (h:laidMet Tryz.prog [("loop.example/g00264/impl.errNoPurses",Rows.laid_loop_example_g00264_impl_errNoPurses),("loop.example/g00264/impl.errNoKey",Rows.laid_loop_example_g00264_impl_errNoKey),("loop.example/g00264/impl.errNoAmount",Rows.laid_loop_example_g00264_impl_errNoAmount),("loop.example/g00264/impl.errFewer",Rows.laid_loop_example_g00264_impl_errFewer),("loop.example/g00264/impl.errBeyond",Rows.laid_loop_example_g00264_impl_errBeyond)] W):∃E,gX W E:=by
 obtain⟨a2,s2,k2,t2,v2,c2,x2,b2⟩:=Rj h Yl Uk;have h1:=h.tail;obtain⟨a0,s0,k0,t0,v0,c0,x0,b0⟩:=Rj h1 akI afi;have h2:=h1.tail;obtain⟨a1,s1,k1,t1,v1,c1,x1,b1⟩:=Rj h2 Yk Uj;have h3:=h2.tail;obtain⟨a3,s3,k3,t3,v3,c3,x3,b3⟩:=Rj h3 akH afh;have h4:=h3.tail;obtain⟨a4,s4,k4,t4,v4,c4,x4,b4⟩:=Rj h4 afg abV;let E:Nat->Addr:=λi=>if i=3 then a2 else if i=1 then a0 else if i=2 then a1 else if i=4 then a3 else a4
 let T:Nat->ByteArray:=λi=>if i=3 then s2 else if i=1 then s0 else if i=2 then s1 else if i=4 then s3 else s4
 have hT:∀i,(1<=i/\i < 6)->W.cell? (E i)=some (.string (T i)):=λi hi=>by
  have:i=1\/i=2\/i=3\/i=4\/i=5:=Aaa
  rcases this with rfl|rfl|rfl|rfl|rfl
  all_goals first|exact c0|exact c1|exact c2|exact c3|exact c4
 refine⟨E,⟨λi hi=>?_,λi hi=>?_,λi j hi hj hne=>apart (hT i hi) (hT j hj) ?_⟩⟩
 .have:i=1\/i=2\/i=3\/i=4\/i=5:=Aaa
  rcases this with rfl|rfl|rfl|rfl|rfl
  all_goals first|exact v0|exact v1|exact v2|exact v3|exact v4
 .have:i=1\/i=2\/i=3\/i=4\/i=5:=Aaa
  rcases this with rfl|rfl|rfl|rfl|rfl
  all_goals first|exact⟨_,_,b0⟩|exact⟨_,_,b1⟩|exact⟨_,_,b2⟩|exact⟨_,_,b3⟩|exact⟨_,_,b4⟩
 .have hi':i=1\/i=2\/i=3\/i=4\/i=5:=Aaa
  have hj':j=1\/j=2\/j=3\/j=4\/j=5:=Aaa
  rcases hi' with rfl|rfl|rfl|rfl|rfl<;>rcases hj' with rfl|rfl|rfl|rfl|rfl
  all_goals first|exact absurd rfl hne|(simp[T,x0,x1,x2,x3,x4])
theorem yH (h:laidMetH Tryz.prog Rows.fnExactWorldOkRow.laid W):(∃E,gX W E)/\Handle W:=by
 have h':laidMet Tryz.prog [("loop.example/g00264/impl.errNoPurses",Rows.laid_loop_example_g00264_impl_errNoPurses),("loop.example/g00264/impl.errNoKey",Rows.laid_loop_example_g00264_impl_errNoKey),("loop.example/g00264/impl.errNoAmount",Rows.laid_loop_example_g00264_impl_errNoAmount),("loop.example/g00264/impl.errFewer",Rows.laid_loop_example_g00264_impl_errFewer),("loop.example/g00264/impl.errBeyond",Rows.laid_loop_example_g00264_impl_errBeyond)] W/\handlesMet Tryz.prog [("errors.errorType",Rows.laid_errors_errorType)] W:=h;exact⟨abK h'.1,Yp h'.2 (aEM.2 rfl)⟩
end Go.Proofs.YtfachhcijcjbpaaGreatDoor
