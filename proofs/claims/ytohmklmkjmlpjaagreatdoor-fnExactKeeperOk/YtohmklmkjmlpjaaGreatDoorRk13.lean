/- Parts. -/
import Derived.Test.YtohmklmkjmlpjaaGreatDoorRk12
namespace Go.Proofs.YtohmklmkjmlpjaaGreatDoor
open Go.Proofs.Tryz
set_option maxHeartbeats 4000000
open Mth
variable (b off cap:Nat) (l:List Pu) (key:ByteArray) (n:Int) (w:World) {B mb g mp:Nat} {v:Value} {p q:Pu} {ks:List ByteArray} {G:ByteArray->Pu} {dm df ds:Int} {w':World} {k:ByteArray} {xs:List Value}
namespace Mth
theorem toList_inj {a b:ByteArray} (h:a.toList=b.toList):a=b:=by
 rw [ByteArray.toList_eq,ByteArray.toList_eq] at h;exact ByteArray.ext (Array.toList_inj.1 h)
theorem oZ (l:List Pu) (k:ByteArray):(aD l k).k=k:=by
 unfold aD;cases h:l.find? (λp=>p.k.toList == k.toList) with
 |none=>rfl
 |some q=>
  have:=List.find?_some h;exact toList_inj (by simpa using this)
theorem qR {l:List Pu} (hp:l.Pairwise Lv) (hq:q∈l):aD l q.k=q:=by
 unfold aD
 have:l.find? (λp=>p.k.toList == q.k.toList)=some q:=by
  induction l with
  |nil=>simp at hq
  |cons x r ih=>
   rw [List.find?_cons];rcases List.mem_cons.1 hq with rfl|hq'
   .simp
   .have hx:x.k.toList < q.k.toList:=(List.pairwise_cons.1 hp).1 q hq'
    have hne:(x.k.toList == q.k.toList)=false:=by
     rw [beq_eq_false_iff_ne];intro e;rw [e] at hx;exact List.lt_irrefl _ hx
    rw [hne];exact ih (List.pairwise_cons.1 hp).2 hq'
 rw [this];rfl
theorem L9 {l:List Pu} (h:∀q∈l,q.k≠k):aD l k=⟨k,0,0,0⟩:=by
 unfold aD
 have:l.find? (λp=>p.k.toList == k.toList)=none:=by
  rw [List.find?_eq_none];intro q hq;simp only[beq_iff_eq];exact λe=>h q hq (toList_inj e)
 rw [this];rfl
theorem aj7 {a b:ByteArray} (h:a.toList < b.toList):a≠b:=λe=>by rw [e] at h;exact List.lt_irrefl _ h
theorem afy {l:List Pu} (hp:l.Pairwise Lv) (p:Pu):(je l p).map (λq=>upd (aD l) p q.k)=je l p:=by
 have:∀q∈je l p,upd (aD l) p q.k=q:=by
  intro q hq;unfold je at hq;unfold upd;rcases List.mem_append.1 hq with hq|hq
  .rw [if_neg (aj7 (zB hq))];exact qR hp ((List.takeWhile_sublist _).mem hq)
  .rcases List.mem_cons.1 hq with rfl|hq
   .rw [if_pos rfl]
   .rw [if_neg (Ne.symm (aj7 (MZ hp q hq)))];exact qR hp ((List.dropWhile_sublist _).mem (F7 l p.k q hq))
 exact(List.map_congr_left (g:=id) this).trans (List.map_id _)
def place (l:List Pu) (k:ByteArray):Nat:=(rO l k).length
theorem lZ (l:List Pu) (k:ByteArray):place l k<=l.length:=by
 have h:=congrArg List.length (wu l k);rw [List.length_append] at h;unfold place;omega
theorem head_take (l:List Pu) (k:ByteArray):rO l k=l.take (place l k):=by
 have h:=wu l k;have:(rO l k++kR l k).take (place l k)=rO l k:=by unfold place;simp
 rw [h] at this;exact this.symm
theorem jA (l:List Pu) (k:ByteArray):kR l k=l.drop (place l k):=by
 have h:=wu l k;have:(rO l k++kR l k).drop (place l k)=kR l k:=by unfold place;simp
 rw [h] at this;exact this.symm
def found (l:List Pu) (k:ByteArray):Bool:=match kR l k with
 |[]=>false
 |q::_=>q.k.toList == k.toList
theorem vM {l:List Pu} {p:Pu} (h:found l p.k=true):(je l p).map (·.k)=l.map (·.k):=by
 have hl:=wu l p.k;unfold found at h;unfold je kJ;cases hf:kR l p.k with
 |nil=>rw [hf] at h;cases h
 |cons q r=>
  rw [hf] at h hl;dsimp only at h ⊢;rw [if_pos h];rw [<-hl];have e:q.k=p.k:=toList_inj Abi;simp[rO,e];rw [show List.takeWhile (λq=>Op.bytesLess q.k.toList p.k.toList) l=rO l p.k from rfl,hl];rfl
theorem rU {l:List Pu} (h:found l p.k=true):(je l p).length=l.length:=by
 have:=congrArg List.length (vM h);simpa using this
theorem xC {l:List Pu} {p:Pu} (h:found l p.k=false):je l p=l.take (place l p.k)++p::l.drop (place l p.k):=by
 unfold je;rw [head_take,<-jA];congr 2
 unfold found at h;unfold kJ;cases hf:kR l p.k with
 |nil=>rfl
 |cons q r=>
  rw [hf] at h;dsimp only at h ⊢;rw [h];rfl
theorem vN {l:List Pu} (h:found l p.k=false):(je l p).length=l.length+1:=by
 rw [xC h];have:=lZ l p.k;simp;omega
def vG (l:List Pu) (k:ByteArray) (t:Nat):ByteArray:=(l[t]?).elim k (·.k)
theorem abq {l:List Pu} (hp:l.Pairwise Lv) (k:ByteArray):Lib.bsGo (λt=>Op.bytesLess (vG l k t).toList k.toList) l.length 0 l.length=place l k:=by
 refine Lib.bsGo_spec _ (place l k) ?_ ?_ _ _ _ Aaa (Nat.zero_le _) (lZ l k)
 .intro t ht;have ht2:t < l.length:=Nat.lt_of_lt_of_le ht (lZ l k)
  have hm:l[t]∈rO l k:=by
   rw [head_take];exact List.mem_take_iff_getElem.2 ⟨t,Aaa,rfl⟩
  unfold vG;rw [List.getElem?_eq_getElem ht2];exact(pY _ _).2 (zB hm)
 .intro t ht;by_cases ht2:t < l.length
  .unfold vG;rw [List.getElem?_eq_getElem ht2];show Op.bytesLess l[t].k.toList k.toList=false
   rw [Bool.eq_false_iff];intro hlt;have hlt':=(pY _ _).1 hlt;have hp0:place l k < l.length:=Aaa
   have hf:kR l k=l[place l k]::l.drop (place l k+1):=by rw [jA,List.drop_eq_getElem_cons hp0]
   have h1:=Bl l k _ _ hf;rcases Nat.lt_or_ge (place l k) t with h|h
   .have h2:l[place l k].k.toList < l[t].k.toList:=List.pairwise_iff_getElem.1 hp _ _ hp0 ht2 h;exact h1 (List.lt_trans h2 hlt')
   .have e:t=place l k:=Aaa
    subst e;exact h1 hlt'
  .unfold vG;rw [List.getElem?_eq_none Aaa];show Op.bytesLess k.toList k.toList=false
   rw [Bool.eq_false_iff];intro h;exact List.lt_irrefl _ ((pY _ _).1 h)
theorem OM (l:List Pu) (k:ByteArray):decide (place l k < l.length/\vG l k (place l k)=k)=found l k:=by
 by_cases h:place l k < l.length
 .have hf:kR l k=l[place l k]::l.drop (place l k+1):=by rw [jA,List.drop_eq_getElem_cons h]
  have hfo:found l k=(l[place l k].k.toList == k.toList):=by unfold found;rw [hf]
  have hka:vG l k (place l k)=l[place l k].k:=by unfold vG;rw [List.getElem?_eq_getElem h];rfl
  rw [hfo,Bool.eq_iff_iff,decide_eq_true_iff,beq_iff_eq,hka];exact⟨λe=>by rw [e.2],λe=>⟨h,toList_inj e⟩⟩
 .have hf:kR l k=[]:=by rw [jA];exact List.drop_eq_nil_of_le Aaa
  unfold found;rw [hf];exact decide_eq_false λe=>h e.1
end Mth
open Go.RowKit
open Mth
namespace Mth
def eY (p:Pu) (dm df ds n:Int):Pu:=⟨p.k,p.m+dm*n,p.f+df*n,p.s+ds*n⟩
end Mth
open Go.RowKit Go.Maps
namespace Mth
def dJ (l:List Pu) (key:ByteArray) (dm df ds n:Int):List Pu×Bool:=qX l (eY (aD l key) dm df ds n) n
theorem al1 {l:List Pu} (hp:l.Pairwise Lv) (p:Pu):∀q∈je l p,upd (aD l) p q.k=q:=by
 intro q hq;obtain⟨i,hi,rfl⟩:=List.mem_iff_getElem.1 hq;have h:=afy hp p;have h2:=congrArg (λx=>x[i]?) h;simp only[List.getElem?_map,List.getElem?_eq_getElem hi,Option.map_some,Option.some.injEq] at h2;exact h2
theorem put_mem {l:List Pu} (h:q∈je l p):q=p\/q∈l:=by
 exact aiy
theorem Jh {l:List Pu} {key:ByteArray} {n:Int} (h:jh l=false):dJ l key dm df ds n=(l,false):=by
 unfold dJ qX;rw [h];rfl
theorem Kr {l:List Pu} {key:ByteArray} {n:Int} (h:¬(1<=n/\n<=1000000000)):dJ l key dm df ds n=(l,false):=by
 unfold dJ qX;rw [decide_eq_false h];simp
theorem Kq {l:List Pu} {key:ByteArray} {n:Int} (h:jh l=true) (hn:1<=n/\n<=1000000000):
 dJ l key dm df ds n=if iD (eY (aD l key) dm df ds n)&&decide ((je l (eY (aD l key) dm df ds n)).length<=20) then(je l (eY (aD l key) dm df ds n),true) else(l,false):=by
 unfold dJ qX;rw [ac3 _ h,h,decide_eq_true hn];rfl
theorem YE {l:List Pu} {key:ByteArray} {n:Int} (h:keyOk key.data.toList=false):iD (eY (aD l key) dm df ds n)=false:=by
 unfold iD;have:(eY (aD l key) dm df ds n).k=key:=oZ l key;rw [this,h];rfl
theorem yA {l:List Pu} {key:ByteArray} (h:jh l=true) (hk:keyOk key.data.toList=true):iD (aD l key)=true:=by
 obtain⟨h1,_,_⟩:=(jT l).1 h;unfold aD;cases hf:l.find? (λp=>p.k.toList == key.toList) with
 |none=>simp[iD,qy,hk]
 |some q=>exact h1 q (List.mem_of_find?_eq_some hf)
theorem sV {d n:Int} (hd:d= -1\/d=0\/d=1) (hn:1<=n/\n<=1000000000): -1000000000<=d*n/\d*n<=1000000000:=by
 rcases hd with rfl|rfl|rfl<;>omega
end Mth
set_option maxRecDepth 100000
theorem mh:∀(vs:List Value) {w:World} {g o:Nat} {xs:List Value} {t:TypeId},w.heap[g]?=some (.cells xs.toArray t (0,0))->(w.setCells g o vs).heap[g]?=some (.cells (GR.setRun xs o vs).toArray t (0,0)):=by
 intro vs;induction vs with
 |nil=>intro w g o xs t h;exact h
 |cons v vs ih=>
  intro w g o xs t h;refine ih (xs:=xs.set o v) ?_;have:=Fo.blk_set h o v;simpa using this
theorem qg {g g':Nat} (hne:g'≠g):∀(vs:List Value) (w:World) (o:Nat),(w.setCells g o vs).heap[g']?=w.heap[g']?:=by
 intro vs;induction vs with
 |nil=>intro w o;rfl
 |cons v vs ih=>intro w o;exact(ih (w.setCell ⟨g,o,none⟩ v) (o+1)).trans (Below.heap_setCell _ _ _ _ hne)
theorem setCells_size {g:Nat}:∀(vs:List Value) (w:World) (o:Nat),(w.setCells g o vs).heap.size=w.heap.size:=by
 intro vs;induction vs with
 |nil=>intro w o;rfl
 |cons v vs ih=>intro w o;exact(ih (w.setCell ⟨g,o,none⟩ v) (o+1)).trans (Fo.setCell_size w _ v)
theorem gV {g:Nat}:∀(vs:List Value) (w:World) (o:Nat),(w.setCells g o vs).os=w.os/\(w.setCells g o vs).tape=w.tape/\(w.setCells g o vs).output=w.output:=by
 intro vs;induction vs with
 |nil=>intro w o;exact⟨rfl,rfl,rfl⟩
 |cons v vs ih=>intro w o;exact ih (w.setCell ⟨g,o,none⟩ v) (o+1)
theorem qd (w:World) (g o:Nat) (vs:List Value):w.grownBy (w.setCells g o vs) (some g):=
 ⟨(gV vs w o).1,(gV vs w o).2.1,(gV vs w o).2.2,by rw [setCells_size];exact Nat.le_refl _,λk _ hne=>qg (λe=>hne Aao) vs w o⟩
theorem qh (a m b vs:List Value) (h:vs.length=m.length):GR.setRun (a++(m++b)) a.length vs=a++(vs++b):=by
 have:=GR.setRun_append_right a vs 0 (m++b);rw [Nat.add_zero] at this;rw [this,GR.setRun_head vs m b h]
def wT (ks:List ByteArray) (i:Nat) (key:ByteArray):List Value:=(ks.map Value.string).take i++(.string key::(ks.map Value.string).drop i)
theorem nP (ks:List ByteArray) (i:Nat) (key:ByteArray) (hi:i<=ks.length):(wT ks i key).length=ks.length+1:=by
 unfold wT;simp;omega
theorem zV (ks:List ByteArray):∀v∈ks.map Value.string,v.oneCell'=true:=by
 intro v hv;obtain⟨k,_,rfl⟩:=List.mem_map.1 hv;rfl
theorem aBV (B:Nat) (v:Value) (l:List Pu) (key:ByteArray) (w:World) (hp:l.Pairwise Lv) (hl:l.length<=20) (h:w.ownsRow B 9 1 v l.length ((l.map (·.k)).map Value.string)):
 Calls Tryz.prog 310 #[v,.string key] w λe w'=>e= .returned (.tuple #[.int .i64 (place l key:Nat),.bool (found l key)])/\∃q,w'=w.drewN q:=by
 by_cases h0:l.length=0
 .have hl0:l=[]:=List.eq_nil_of_length_eq_zero h0;subst hl0
  have hv:∃a c,v= .slice a 0 c:=by
   rcases h.2 with⟨rfl,_⟩|⟨g,cap,cur,rfl,_⟩
   .exact⟨none,0,rfl⟩
   .exact⟨_,_,rfl⟩
  obtain⟨a,c,rfl⟩:=hv;exact(Any2.slices_BinarySearch_string_empty Fe a c key w).mono λe w' ⟨he,hw⟩=>⟨by rw [he];rfl,0,hw⟩
 .obtain⟨g,cap,rfl,_,_⟩:=h.form Aaa
  have hb:=Any2.slices_BinarySearch_string Fe g 0 l.length cap (vG l key) key w Aaa (λj hj=>by
   have hc:=h.cellAt j Aaa
   rw [Nat.zero_add,hc]
   unfold vG
   simp[hj])
  rw [abq hp key,OM l key] at hb;exact hb
theorem Lr {w:World} {cap:Nat} {i:Nat} {key:ByteArray} {bs:List Value} (hi:i<=ks.length) (hg:B<=g) (hcap:ks.length+1<=cap) (hcm:cap<=maxLen) (hlen:(wT ks i key++bs).length=cap) (h:w.heap[g]?=some (.cells (wT ks i key++bs).toArray 9 (0,0))):w.ownsRow B 9 1 (.slice (some ⟨g,0,none⟩) (ks.length+1) cap) (ks.length+1) (wT ks i key):=by
 have hl:=nP ks i key hi;refine⟨Aaa,.inr ⟨g,cap,_,rfl,hg,h,hcap,hcm,by rw [List.size_toArray];omega,?_⟩⟩;rw [List.toList_toArray,Nat.mul_one,<-hl,List.take_left'];rfl
theorem uG (n:Nat):(Builtin.zeroCells (Value.string ⟨#[]⟩).cells n).toList.length=n:=by
 rw [Array.length_toList,size_zeroCells];simp[Value.cells]
theorem Bq (w:World) (o:Obj) (row:Option Nat):w.grownBy (w.drew.alloc o) row:=
 ⟨rfl,rfl,rfl,Aac,λk hk _=>Below.heap_alloc w.drew _ _ hk⟩
theorem PW (ks:List ByteArray) (key:ByteArray):wT ks ks.length key=ks.map Value.string++[.string key]:=by
 unfold wT;rw [List.take_of_length_le Aac,List.drop_of_length_le Aac]
theorem EX (B:Nat) (base:Option Addr) (c:Nat) (ks:List ByteArray) (key:ByteArray) (vb:Nat) (w:World) (hn:ks.length<=20) (hB:B<=w.heap.size) (hnc:ks.length<=c) (hroom:c < ks.length+1) (hnil:base=none->ks.length=0) (hcs:∀a,base=some a->∀(j:Nat) (v:Value),(ks.map Value.string)[j]?=some v->w.cell? (a.add j)=some v) (hvs:∀(j:Nat) (u:Value),[Value.string key][j]?=some u->w.cell? ⟨vb,0+j,none⟩=some u) (h1v:∀u∈[Value.string key],u.oneCell'=true) (row:Option Nat):
 Calls Tryz.prog 311 #[.slice base ks.length c,.int .i64 (ks.length:Nat),.slice (some ⟨vb,0,none⟩) 1 1] w λe w'=>∃v',e= .returned v'/\w'.ownsRow B 9 1 v' (ks.length+1) (wT ks ks.length key)/\w.grownBy w' row:=by
 refine(Any2.slices_Insert_string_end_grow uf base ks.length c vb 0 1 1 (ks.map Value.string) [.string key] w Aaa hnc hroom Aaa Aac rfl hnil hcs hvs h1v).mono λe w' ⟨he,hw⟩=>?_
 have hge:=grownCap_ge w (ks.length+1) c (uM.t 9);have hle:=grownCap_le_maxLen w (ks.length+1) c (uM.t 9) Aai;refine⟨_,he,?_,by rw [hw];exact Bq w _ row⟩;generalize grownCap w (ks.length+1) c (uM.t 9)=cap at *;refine Lr (w:=w') (bs:=(Builtin.zeroCells (Value.string ⟨#[]⟩).cells (cap - (ks.length+1))).toList) (Nat.le_refl _) hB hge hle ?_ ?_
 .rw [List.length_append,uG,nP _ _ _ (Nat.le_refl _)];omega
 .rw [hw];have:=heap_alloc_new w.drew (.cells ((ks.map Value.string++[Value.string key]).toArray++Builtin.zeroCells (Value.string ⟨#[]⟩).cells (cap - (ks.length+1))) (uM.t 9));refine Eq.trans this ?_;rw [PW]
  have e:(ks.map Value.string++[Value.string key]).toArray++Builtin.zeroCells (Value.string ⟨#[]⟩).cells (cap - (ks.length+1))=(ks.map Value.string++[Value.string key]++(Builtin.zeroCells (Value.string ⟨#[]⟩).cells (cap - (ks.length+1))).toList).toArray:=by
   apply Array.toList_inj.1
   simp
  rw [e];rfl
theorem alT (B:Nat) (v:Value) (ks:List ByteArray) (i:Nat) (key:ByteArray) (vb:Nat) (w:World) (hi:i<=ks.length) (hn:ks.length<=20) (hB:B<=w.heap.size) (h:w.ownsRow B 9 1 v ks.length (ks.map Value.string)) (hv:w.heap[vb]?=some (.cells #[.string key] 9 (0,0))) (hvb:v.ownBlock≠some vb):
 Calls Tryz.prog 311 #[v,.int .i64 (i:Nat),.slice (some ⟨vb,0,none⟩) 1 1] w λe w'=>∃v',e= .returned v'/\w'.ownsRow B 9 1 v' (ks.length+1) (wT ks i key)/\w.grownBy w' v.ownBlock:=by
 have hvs:∀(j:Nat) (u:Value),[Value.string key][j]?=some u->w.cell? ⟨vb,0+j,none⟩=some u:=λj u hu=>by
  rw [cell_of_row w vb _ _ 9 (0,0) hv,Nat.zero_add]
  simpa using hu
 have h1v:∀u∈[Value.string key],u.oneCell'=true:=λu hu=>by rw [List.mem_singleton.1 hu];rfl
 have hfree:∀j,w.frozen? ⟨vb,j,none⟩=false:=λj=>by unfold World.frozen?;rw [hv];simp
 have hsa:w.shape? vb=some (9,1):=by unfold World.shape?;rw [hv];rfl
 rcases h.2 with⟨rfl,h0⟩|⟨g,cap,cur,rfl,hg,hblk,hnc,hcm,hcs,htk⟩
 .have hi0:i=ks.length:=Aaa
  subst hi0;have:=EX B none 0 ks key vb w hn hB Aaa Aaa (λ_=>h0) (λa ha=>by cases ha) hvs h1v none;rw [h0] at this ⊢;exact this
 have aGf:vb≠g:=λe=>hvb (by rw [e];rfl)
 obtain⟨sp,hcur⟩:∃sp,cur.toList=ks.map Value.string++sp:=⟨cur.toList.drop ks.length,by
  rw [Nat.mul_one] at htk
  rw [<-htk,List.take_append_drop]⟩
 have hblk2:w.heap[g]?=some (.cells (ks.map Value.string++sp).toArray 9 (0,0)):=by rw [hblk,<-hcur]
 have ab2:ks.length+sp.length=cap:=by
  have:=congrArg List.length hcur;rw [Array.length_toList,hcs] at this;simp at this;omega
 have hcell:∀j,w.cell? ⟨g,j,none⟩=(ks.map Value.string++sp)[j]?:=λj=>by
  rw [cell_of_row w g j _ 9 (0,0) hblk2]
  simp
 have hfz:∀j,w.frozen? ⟨g,j,none⟩=false:=λj=>by unfold World.frozen?;rw [hblk2];simp
 have alx:∀(j:Nat) (u:Value),(ks.map Value.string)[j]?=some u->w.cell? ⟨g,0+j,none⟩=some u:=λj u hu=>by
  rw [Nat.zero_add,hcell,List.getElem?_append_left (List.getElem?_eq_some_iff.1 hu).1]
  exact hu
 rcases Nat.lt_or_ge i ks.length with hlt|hge
 .obtain⟨ra,hra⟩:∃ra,ra=(ks.map Value.string).take i:=⟨_,rfl⟩;obtain⟨rb,hrb⟩:∃rb,rb=(ks.map Value.string).drop i:=⟨_,rfl⟩;have hsplit:ks.map Value.string=ra++rb:=by rw [hra,hrb,List.take_append_drop]
  have aCy:ra.length=i:=by rw [hra];simp;omega
  have aHv:rb.length=ks.length - i:=by rw [hrb];simp
  have hins:wT ks i key=ra++(.string key::rb):=by unfold wT;rw [<-hra,<-hrb]
  by_cases hroom:ks.length+1<=cap
  .have hsb:w.shape? g=some (9,cap):=by unfold World.shape?;rw [hblk2];simp;omega
   refine(Any2.slices_Insert_string_shift uf g 0 ks.length cap i vb 0 1 1 (ks.map Value.string) [.string key] w hlt Aaa hroom Acf aGf Aac rfl alx
    (λj hj=>by rw [Nat.zero_add,hcell];simp;omega) (λj _=>hfz _) hvs (zV ks) h1v 9 9 1 cap hsa hsb Aaa (hfree _) (hfree _)).mono λe w' ⟨he,hw⟩=>?_
   obtain⟨s0,sp',hsp⟩:∃s0 sp',sp=s0::sp':=by
    exact ajO
   obtain⟨x0,A,hxA,hAl⟩:∃x0 A,rb++[s0]=x0::A/\A.length=rb.length:=by
    cases hb:rb++[s0] with
    |nil=>simp at hb
    |cons x0 A=>
     refine⟨x0,A,rfl,?_⟩;have:=congrArg List.length hb;simp at this;omega
   have hxs:ks.map Value.string++sp=(ra++[x0])++(A++sp'):=by
    rw [hsplit,hsp];have:ra++rb++s0::sp'=ra++((rb++[s0])++sp'):=Aac
    rw [this,hxA];simp
   have e1:GR.setRun (ks.map Value.string++sp) (0+(i+1)) rb=(ra++[x0])++(rb++sp'):=by
    rw [hxs];have:=qh (ra++[x0]) A sp' rb hAl.symm;rw [show(ra++[x0]).length=0+(i+1) by simp;omega] at this;exact this
   have e2:GR.setRun ((ra++[x0])++(rb++sp')) (0+i) [.string key]=wT ks i key++sp':=by
    have:=qh ra [x0] (rb++sp') [.string key] rfl;rw [aCy] at this;rw [Nat.zero_add,hins];have e:(ra++[x0])++(rb++sp')=ra++([x0]++(rb++sp')):=Aac
    rw [e,this];simp
   refine⟨_,he,Lr (bs:=sp') hi hg hroom hcm ?_ ?_,?_⟩
   .rw [List.length_append,nP ks i key hi];rw [hsp] at ab2;simp at ab2;omega
   .rw [hw,<-hrb];have h1:=mh rb (w:=w.drew) (o:=0+(i+1)) hblk2;rw [e1] at h1;have h2:=mh [.string key] (o:=0+i) h1;rw [e2] at h2;exact h2
   .rw [hw];have h1:=qd w.drew g (0+(i+1)) ((ks.map Value.string).drop i);have h2:=qd (w.drew.setCells g (0+(i+1)) ((ks.map Value.string).drop i)) g (0+i) [.string key];exact⟨h2.os.trans h1.os,h2.tape.trans h1.tape,h2.output.trans h1.output,Nat.le_trans h1.size h2.size,λk hk hne=>(h2.block k (Nat.lt_of_lt_of_le hk h1.size) hne).trans (h1.block k hk hne)⟩
  .have aGT:cap=ks.length:=Aaa
   refine(Any2.slices_Insert_string_grow uf g 0 ks.length cap i vb 0 1 1 (ks.map Value.string) [.string key] w hlt Aaa hnc Aaa Aaa Aac rfl alx hvs (zV ks) h1v).mono λe w' ⟨he,hw⟩=>?_
   have hge:=grownCap_ge w (ks.length+1) cap (uM.t 9);have hle:=grownCap_le_maxLen w (ks.length+1) cap (uM.t 9) Aai;generalize grownCap w (ks.length+1) cap (uM.t 9)=cap' at *;obtain⟨z1,hz1⟩:∃z1,z1=(Builtin.zeroCells (Value.string ⟨#[]⟩).cells (ks.length+1 - i)).toList:=⟨_,rfl⟩;obtain⟨z2,hz2⟩:∃z2,z2=(Builtin.zeroCells (Value.string ⟨#[]⟩).cells (cap' - (ks.length+1))).toList:=⟨_,rfl⟩;have afb:z1.length=ks.length+1 - i:=by rw [hz1,uG]
   have Dh:z2.length=cap' - (ks.length+1):=by rw [hz2,uG]
   obtain⟨x0,A,hxA⟩:∃x0 A,z1=x0::A:=by
    cases z1 with
    |nil=>simp at afb;omega
    |cons x0 A=>exact⟨x0,A,rfl⟩
   have hAl:A.length=rb.length:=by rw [hxA] at afb;simp at afb;omega
   have hall:(w.alloc (.cells (((ks.map Value.string).take i).toArray++Builtin.zeroCells (Value.string ⟨#[]⟩).cells (ks.length+1 - i)++Builtin.zeroCells (Value.string ⟨#[]⟩).cells (cap' - (ks.length+1))) (uM.t 9))).heap[w.heap.size]?=some (.cells (ra++([x0]++(A++z2))).toArray 9 (0,0)):=by
    refine Eq.trans (heap_alloc_new w _) ?_
    have e:((ks.map Value.string).take i).toArray++Builtin.zeroCells (Value.string ⟨#[]⟩).cells (ks.length+1 - i)++Builtin.zeroCells (Value.string ⟨#[]⟩).cells (cap' - (ks.length+1))=(ra++([x0]++(A++z2))).toArray:=by
     apply Array.toList_inj.1
     rw [Array.toList_append,Array.toList_append,<-hz1,<-hz2,hxA,hra];simp
    rw [e];rfl
   have e1:GR.setRun (ra++([x0]++(A++z2))) i [.string key]=(ra++[.string key])++(A++z2):=by
    have:=qh ra [x0] (A++z2) [.string key] rfl;rw [aCy] at this;rw [this];simp
   have e2:GR.setRun ((ra++[.string key])++(A++z2)) (i+1) rb=wT ks i key++z2:=by
    have:=qh (ra++[.string key]) A z2 rb hAl.symm;rw [show(ra++[Value.string key]).length=i+1 by simp;omega] at this;rw [this,hins];simp
   refine⟨_,he,Lr (bs:=z2) hi hB hge hle ?_ ?_,?_⟩
   .rw [List.length_append,nP ks i key hi];omega
   .rw [hw,<-hrb];have h1:=mh [.string key] (w:=(w.alloc (.cells (((ks.map Value.string).take i).toArray++Builtin.zeroCells (Value.string ⟨#[]⟩).cells (ks.length+1 - i)++Builtin.zeroCells (Value.string ⟨#[]⟩).cells (cap' - (ks.length+1))) (uM.t 9))).drew) (o:=i) hall;rw [e1] at h1;have h2:=mh rb (w:=((w.alloc (.cells (((ks.map Value.string).take i).toArray++Builtin.zeroCells (Value.string ⟨#[]⟩).cells (ks.length+1 - i)++Builtin.zeroCells (Value.string ⟨#[]⟩).cells (cap' - (ks.length+1))) (uM.t 9))).drew.setCells w.heap.size i [.string key]).drew) (o:=i+1) h1;rw [e2] at h2;exact h2
   .rw [hw];refine⟨?_,?_,?_,?_,?_⟩
    .rw [(gV _ _ _).1];exact(gV _ _ _).1
    .rw [(gV _ _ _).2.1];exact(gV _ _ _).2.1
    .rw [(gV _ _ _).2.2];exact(gV _ _ _).2.2
    .rw [setCells_size];refine Nat.le_trans ?_ (Nat.le_of_eq (setCells_size _ _ _).symm);show w.heap.size<=(w.alloc _).heap.size
     simp
    .intro k hk _;rw [qg Aaa];refine(qg (g:=w.heap.size) (g':=k) Aaa _ _ _).trans ?_;exact Below.heap_alloc w _ _ hk
 .have hie:i=ks.length:=Aaa
  subst hie;by_cases hroom:ks.length+1<=cap
  .refine(Any2.slices_Insert_string_end_room uf g 0 ks.length cap vb 0 1 1 [.string key] w Aaa hroom Acf rfl
    (λj hj=>by rw [Nat.zero_add,hcell];simp;omega) (λj _=>hfz _) hvs h1v).mono λe w' ⟨he,hw⟩=>?_
   obtain⟨s0,sp',hsp⟩:∃s0 sp',sp=s0::sp':=by
    exact ajO
   have e1:GR.setRun (ks.map Value.string++sp) (0+ks.length) [.string key]=wT ks ks.length key++sp':=by
    have:=qh (ks.map Value.string) [s0] sp' [.string key] rfl;rw [List.length_map] at this;rw [Nat.zero_add,hsp,PW];have e:ks.map Value.string++s0::sp'=ks.map Value.string++([s0]++sp'):=Aac
    rw [e,this];simp
   refine⟨_,he,Lr (bs:=sp') (Nat.le_refl _) hg hroom hcm ?_ ?_,by rw [hw];exact qd w g (0+ks.length) [.string key]⟩
   .rw [List.length_append,nP ks _ key (Nat.le_refl _)];rw [hsp] at ab2;simp at ab2;omega
   .rw [hw];have h1:=mh [.string key] (w:=w) (o:=0+ks.length) hblk2;rw [e1] at h1;exact h1
  .exact EX B (some ⟨g,0,none⟩) cap ks key vb w hn hB hnc Aaa (λha=>by cases ha) (λa ha j u hu=>by
    injection ha with ha
    subst ha
    have e:(⟨g,0,none⟩:Addr).add j=⟨g,0+j,none⟩:=by unfold Addr.add;split<;>simp_all
    rw [e]
    exact alx j u hu) hvs h1v (some g)
structure PM (w:World) (B mp mb n:Nat) (v:Value) (ks:List ByteArray) (G:ByteArray->Pu):Prop where
 blk:w.heap[mp]?=some (.cells #[v,.map (some mb)] 352 (0,0))
 row:w.ownsRow B 9 1 v ks.length (ks.map Value.string)
 map:iK w mb n G
 lop:B<=mp
 lom:B<=mb
theorem own_ne {w:World} {n:Nat} {t:TypeId} {cs:Array Value} {fr:Nat×Nat} (h:w.ownsRow B 9 1 v n xs) (hg:w.heap[g]?=some (.cells cs t fr)) (ht:t≠9):v.ownBlock≠some g:=by
 rcases h.2 with⟨rfl,_⟩|⟨g',cap,cur,rfl,_,hb,_⟩
 .intro e;cases e
 .intro e;injection e with e
  have e':g'=g:=e;subst e';rw [hg] at hb;injection hb with hb
  injection hb with h1 h2 h3
  exact ht h2
theorem yw {w:World} {n:Nat} {es:Array MapEntry} {clock:Nat} (h:w.ownsRow B 9 1 v n xs) (hg:w.heap[g]?=some (.map es clock)):v.ownBlock≠some g:=by
 rcases h.2 with⟨rfl,_⟩|⟨g',cap,cur,rfl,_,hb,_⟩
 .intro e;cases e
 .intro e;injection e with e
  have e':g'=g:=e;subst e';rw [hg] at hb;cases hb
theorem iK.blk {w:World} {n:Nat} (h:iK w mb n G):∃es clock,w.heap[mb]?=some (.map es clock):=by
 obtain⟨D,⟨es,clock,h1,_⟩,_⟩:=h;exact⟨es,clock,h1⟩
theorem PM.mpmb {w:World} {n:Nat} (h:PM w B mp mb n v ks G):mp≠mb:=by
 obtain⟨es,clock,hb⟩:=h.map.blk;intro e;have:=h.blk;rw [e,hb] at this;cases this
theorem PM.below {w:World} {n:Nat} (h:PM w B mp mb n v ks G) (hb:aI w w'):PM w' B mp mb n v ks G:=by
 have hg:w.grownBy w' none:=⟨hb.os,hb.tape,hb.output,hb.size,λk hk _=>hb.block k hk⟩;refine⟨?_,?_,?_,h.lop,h.lom⟩
 .rw [hb.block _ (Fo.lt_of_blk h.blk)];exact h.blk
 .refine h.row.kept hg ?_;exact ajP
 .exact h.map.kept (hb.block _ h.map.lt)
theorem PM.drewN {w:World} {n q:Nat} (h:PM w B mp mb n v ks G):PM (w.drewN q) B mp mb n v ks G:=⟨h.blk,h.row,h.map,h.lop,h.lom⟩
theorem PM.turned {w:World} {n n':Nat} {G':ByteArray->Pu} (h:PM w B mp mb n v ks G) (hk:Keeps mb w w') (hm:iK w' mb n' G'):PM w' B mp mb n' v ks G':=by
 have hg:w.grownBy w' (some mb):=⟨hk.os,hk.tape,hk.output,hk.size,λk hl hne=>hk.block k hl (λe=>hne Aao)⟩;obtain⟨es,clock,hb⟩:=h.map.blk;refine⟨?_,?_,hm,h.lop,h.lom⟩
 .rw [hk.block _ (Fo.lt_of_blk h.blk) h.mpmb];exact h.blk
 .refine h.row.kept hg (.inr (yw h.row hb))
theorem Cu {w:World} (hk:Keeps g w w') (hg:B<=g) (hB:B<=w.heap.size):Below B w w':=⟨hk.os,hk.tape,hk.output,hk.size,λk hl=>hk.block k Aaa Aaa⟩
def PO (l:List Pu) (key:ByteArray):List ByteArray:=(l.map (·.k)).take (place l key)++key::(l.map (·.k)).drop (place l key)
theorem acr (l:List Pu) (key:ByteArray):wT (l.map (·.k)) (place l key) key=(PO l key).map Value.string:=by
 unfold wT PO;simp
theorem Cq (l:List Pu) (key:ByteArray):(PO l key).length=l.length+1:=by
 unfold PO;have:=lZ l key;simp;omega
theorem Ma {l:List Pu} (h:found l p.k=false):(je l p).map (·.k)=PO l p.k:=by
 rw [xC h];unfold PO;simp
theorem Tt (B mp mb n:Nat) (v:Value) (l:List Pu) (G:ByteArray->Pu) (key:ByteArray) (E:Nat->Addr) (w:World) (hp:l.Pairwise Lv) (hl:l.length<=20) (hB:B<=w.heap.size) (h:PM w B mp mb n v (l.map (·.k)) G) (he:iI w E):
 Calls Tryz.prog 304 #[.pointer (some ⟨mp,0,none⟩),.string key] w λe w'=>Below B w w'/\(∀k,k < w.heap.size->k≠mp->v.ownBlock≠some k->w'.heap[k]?=w.heap[k]?)/\
  ((found l key=true/\e= .returned .nilIface/\PM w' B mp mb n v (l.map (·.k)) G)\/
   (found l key=false/\l.length=20/\e= .returned (tL (E 5)))\/
   (found l key=false/\l.length < 20/\e= .returned .nilIface/\∃v',PM w' B mp mb n v' (PO l key) G)):=by
 have hrow:=h.row;rw [List.length_map] at hrow
 obtain⟨a,cap,rfl⟩:∃a cap,v= .slice a l.length cap:=by
  exact ajw
 have HBS:=Hq (aBV B _ l key w hp hl hrow);have hmp:=Fo.lt_of_blk h.blk;have hmb:=h.map.lt;obtain⟨⟨m0,m1⟩,f0,f1⟩:=mD h.blk;have ve:=he.var 5 Aaa;have HH:=Hq h;have HR:=Hq hrow;clear h hrow he;cases hf:found l key
 .by_cases h20:l.length=20
  .have aCt:((l.length:Int) == 20)=true:=Aag
   have H20:=Hq h20;clear h20;open aw1 in exact aay
  .have aCt:((l.length:Int) == 20)=false:=Aag
   open aw0 in exact aay
 .open awZ in exact aay
theorem UG {w:World} {b off:Nat} {l:List Pu} (h:aG w (some ⟨b,off,none⟩) l) (k:Nat):aG w (some ⟨b,off+k*4,none⟩) (l.drop k):=λi hi=>by
 have hi':k+i < l.length:=Abo
 obtain⟨g,o,e,hg,hc⟩:=h (k+i) hi';injection e with e
 injection e with e1 e2
 subst e1 e2;refine⟨b,off+k*4,rfl,hg,λj hj=>?_⟩;have:=hc j hj;rw [show off+k*4+(i*4+j)=off+((k+i)*4+j) by omega,this];simp
theorem adM {w:World} {a:Option Addr} {l:List Pu} (h:aG w a l) (k:Nat):aG w a (l.take k):=λi hi=>by
 have hi':i < l.length:=Abo
 obtain⟨g,o,e,hg,hc⟩:=h i hi';refine⟨g,o,e,hg,λj hj=>?_⟩;rw [hc j hj];simp
theorem UH {w:World} {a:Option Addr} {l:List Pu} (h:l=[]):aG w a l:=λi hi=>by rw [h] at hi;simp at hi
theorem Mth.tail_found {l:List Pu} (h:found l k=true):place l k < l.length/\kJ l k=l.drop (place l k+1):=by
 have hpl:=lZ l k;by_cases hlt:place l k < l.length
 .refine⟨hlt,?_⟩;unfold found at h;unfold kJ;rw [jA,List.drop_eq_getElem_cons hlt] at h ⊢;dsimp only at h ⊢;rw [if_pos h]
 .unfold found at h;rw [jA,List.drop_eq_nil_of_le Aaa] at h;cases h
theorem Mth.tail_not {l:List Pu} {k:ByteArray} (h:found l k=false):kJ l k=l.drop (place l k):=by
 unfold found at h;unfold kJ;rw [jA] at h ⊢;cases hd:l.drop (place l k) with
 |nil=>rfl
 |cons q r=>
  rw [hd] at h;dsimp only at h ⊢;rw [h];rfl
theorem Mth.put_flat (l:List Pu) (p:Pu):GR.flat gB (l.take (place l p.k))++gB p++GR.flat gB (kJ l p.k)=GR.flat gB (je l p)/\place l p.k+1+(kJ l p.k).length=(je l p).length:=by
 have hpl:=lZ l p.k;unfold je;rw [head_take];constructor
 .rw [GR.flat_append,GR.flat_cons,List.append_assoc]
 .simp;omega
theorem Mth.put_mem' {l:List Pu} (h:q∈je l p):q=p\/q∈l:=by
 exact aiy
theorem Mth.tail_len (l:List Pu) (k:ByteArray):(kJ l k).length<=l.length:=by
 cases h:found l k
 .rw [tail_not h];simp
 .rw [(tail_found h).2];simp
theorem oq {P:Program} (w:World) {ops:Array Oper} {o:Oper} {a:Act} {K:Act->World->Prop} {Q:Exit->Act->World->Prop} {E:Prop} (hgd:o.guard=none) (s x:Operand) (t:TypeId)
 (ho:o.op= .call {callee:= .builtin .append,args:=#[s,x],argTypes:=#[t,t]})
 (base:Nat) (e:TypeId) (i:TypeInfo) (z:Value) (size bytes:Nat) (ht:P.underlying t=some (.slice e)) (hi:P.info? e=some i) (hz:i.zero=some z)
 (hsize:i.size=size) (hby:i.bytes=bytes) (hzs:z.cells.size=size) (hsz:0 < size)
 (v:Value) (n:Nat) (xs:List Value) (hs:a.eval s=v) (hown:w.ownsRow base e size v n xs)
 (ad:Addr) (m c:Nat) (news:List Value) (hx:a.eval x= .slice (some ad) m c) (hl:news.length=m*size) (hnews:∀j u,news[j]?=some u->w.cell? (ad.add j)=some u) (h1:∀u∈news,u.oneCell'=true)
 (h63:n+m<=maxLen) (hbytes:(n+m)*bytes<=140737488355328) (hbase:base<=w.heap.size)
 (h:∀v' w',w'.ownsRow base e size v' (n+m) (xs++news)->w.grownBy w' v.ownBlock->(v'= .slice none 0 0↔v= .slice none 0 0/\m=0)->K (a.put o.dst v') w'):
 if Region.wanted o (yielded ops a.tmps)=true then Oper.wp P o a w K Q else E:=by
 exact aiv
theorem tQ {w:World} {row:Option Nat} (hk:w.grownBy w' row) (hg:∀k,row=some k->B<=k) (hB:B<=w.heap.size):Below B w w':=⟨hk.os,hk.tape,hk.output,hk.size,λk hl=>hk.block k Aaa (λe=>by have:=hg k e.symm;omega)⟩
theorem Jk (p:Pu):∀u∈gB p,u.oneCell'=true:=by
 intro u hu;simp only[gB,List.mem_cons,List.not_mem_nil,or_false] at hu;rcases hu with rfl|rfl|rfl|rfl<;>rfl
theorem acY (v:Value):v.ownBlock=none\/v.ownBlock≠none:=by
 exact ajP
theorem Bc (w:World) (a b:Nat):(w.drewN a).drewN b=w.drewN (a+b):=by
 simp[World.drewN,Nat.add_assoc]
theorem Mth.place_at (l:List Pu) (key:ByteArray) (k:Nat) (hk:k<=l.length) (h1:∀q∈l.take k,Op.bytesLess q.k.toList key.toList=true) (h2:∀h:k < l.length,Op.bytesLess l[k].k.toList key.toList=false):place l key=k/\kR l key=l.drop k:=by
 obtain⟨e1,e2⟩:=adE (λq=>Op.bytesLess q.k.toList key.toList) l k hk h1 h2;unfold place rO kR;rw [e1,e2];exact⟨Aag,rfl⟩
theorem TM (b off:Nat) (cap:Nat) (l:List Pu) (p:Pu) (n:Int) (w:World) (hcap:l.length<=cap) (hk:∀p∈l,p.k.size<=maxLen) (hpk:p.k.size<=maxLen) (ha:aG w (some ⟨b,off,none⟩) l) (hok:jh l=true) (hn:1<=n/\n<=1000000000):
 Calls Tryz.prog 182 #[.slice (some ⟨b,off,none⟩) l.length cap,wU p,.int .i64 n] w λe w'=>∃v,e= .returned (.tuple #[v,.bool (qX l p n).2])/\v≠ .slice none 0 0/\w'.ownsRow w.heap.size 108 4 v (qX l p n).1.length (GR.flat gB (qX l p n).1)/\aI w w':=by
 have hl:l.length<=20:=((jT l).1 hok).2.2;have nW:=Hq (λw1 (h:aG w1 (some ⟨b,off,none⟩) l)=>oJ (some ⟨b,off,none⟩) cap l w1 Aaa hk h);have HA:=Hq ha;have hn2:decide (xM n 1 1000000000)=true:=decide_eq_true hn;have HW:=Hq (show qX l p n=if jh (je l p) then(je l p,true) else(l,false) by unfold qX;rw [hok,decide_eq_true hn];rfl);clear ha hn;obtain⟨pk,pm,pf,ps⟩:=p;go_in
 go_wp2_with fail;refine(nW _ (GR.At.below HA (dU w _))).mono ?_;rintro e w1 ⟨rfl,hb1⟩;have yQ:=Hq (show w1.heap[w.heap.size]?=some (.cells (iZ pk pm pf ps) 108 (0,0)) by rw [hb1.block w.heap.size Aac];exact heap_alloc_new w _);have HB1:=Hq ((dU w _).trans (hb1.mono (dU w _).size))
 have hbw:b < w1.heap.size\/l.length=0:=by
  rcases Nat.eq_zero_or_pos l.length with h|h
  .exact .inr h
  .obtain⟨g,o,e,hg,_⟩:=ah HA 0 h;injection e with e
   injection e with e1 e2
   subst e1;exact .inl (Nat.lt_of_lt_of_le hg HB1.size)
 clear hb1;rw [hok];clear hok;go_wp2_with fail;refine(TI _ _ _ _).mono ?_;rintro e w3 ⟨rfl,rfl⟩;rw [hn2];go_upto_block 0 with fail;go_cut [8] (λi wx=>i= .int .i64 (place l pk:Nat)/\∃q,wx=w1.drewN q)
 case first=>
  go_wp2_with fail;go_loopw [8] (λi wr=>∃k q:Nat,k<=l.length/\i= .int .i64 k/\(∀x∈l.take k,Op.bytesLess x.k.toList pk.toList=true)/\wr=w1.drewN q) (λi _=>l.length - (intOf i).toNat)
  case atStart=>exact⟨0,0,Nat.zero_le _,rfl,λx hx=>Abu,rfl⟩
  case round=>
   obtain⟨k,q,hk1,rfl,hall,rfl⟩:=hrel;have kX:=Hq hall;clear hall;open avv in exact agV
 case rest=>
  obtain⟨rfl,q,rfl⟩:=hcut;have hpl:=lZ l pk
  obtain⟨ad,hAd,hAe⟩:∃ad:Addr,(if cap=place l pk then some (⟨b,off,none⟩:Addr) else some ⟨b,off+place l pk*4,none⟩)=some ad/\(place l pk < l.length->ad=⟨b,off+place l pk*4,none⟩):=by
   by_cases h:cap=place l pk
   .rw [if_pos h];exact⟨_,rfl,λh2=>Aaa⟩
   .rw [if_neg h];exact⟨_,rfl,λ_=>rfl⟩
  open avu in exact agV
def iV (w:World) (r:List Pu×Bool) (e:Ending) (w':World):Prop:=∃v,e= .returned (.tuple #[v,.bool r.2])/\v≠ .slice none 0 0/\w'.ownsRow w.heap.size 108 4 v r.1.length (GR.flat gB r.1)/\aI w w'
theorem Mth.purseOf_am {l:List Pu} {key:ByteArray} (h:jh l=true):(0<=(aD l key).m/\(aD l key).m<=1000000000)/\(0<=(aD l key).f/\(aD l key).f<=1000000000)/\(0<=(aD l key).s/\(aD l key).s<=1000000000):=by
 obtain⟨h1,_,_⟩:=(jT l).1 h;unfold aD;cases hf:l.find? (λp=>p.k.toList == key.toList) with
 |none=>simp
 |some q=>
  have hq:=h1 q (List.mem_of_find?_eq_some hf);unfold iD at hq;simp only[Bool.and_eq_true] at hq;exact⟨of_decide_eq_true hq.1.1.1.2,of_decide_eq_true hq.1.1.2,of_decide_eq_true hq.1.2⟩
theorem E9 (b off cap:Nat) (l:List Pu) (key:ByteArray) (dm df ds n:Int) (w:World) (hl:l.length<=1048600) (hcap:l.length<=cap) (hk:∀p∈l,p.k.size<=1048576) (hkey:key.size<=1048576) (hd1:dm= -1\/dm=0\/dm=1) (hd2:df= -1\/df=0\/df=1) (hd3:ds= -1\/ds=0\/ds=1) (ha:aG w (some ⟨b,off,none⟩) l):
 Calls Tryz.prog 145 #[.slice (some ⟨b,off,none⟩) l.length cap,.string key,.int .i64 dm,.int .i64 df,.int .i64 ds,.int .i64 n] w (iV w (dJ l key dm df ds n)):=by
 have hkm:∀p∈l,p.k.size<=maxLen:=λp hp=>by have:=hk p hp;unfold maxLen;omega
 have Jb:=Hq (vO (some ⟨b,off,none⟩) cap l key w hl ha);have HA:=Hq ha;unfold iV;by_cases hin:jh l=true/\1<=n/\n<=1000000000
 .obtain⟨hok,hn1,hn2⟩:=hin;obtain⟨⟨m0,m1⟩,⟨f0,f1⟩,s0,s1⟩:=purseOf_am (key:=key) hok;obtain⟨u10,u11⟩:=sV hd1 ⟨hn1,hn2⟩;obtain⟨u20,u21⟩:=sV hd2 ⟨hn1,hn2⟩;obtain⟨u30,u31⟩:=sV hd3 ⟨hn1,hn2⟩;have hpk:=oZ l key;have HWI:=Hq (λw1 (hb:aI w w1)=>TM b off cap l (eY (aD l key) dm df ds n) n w1 hcap hkm (by show(aD l key).k.size<=maxLen;rw [hpk];unfold maxLen;omega) (GR.At.below ha hb) hok ⟨hn1,hn2⟩);have hAm:decide (xM n 0 1000000000)=true:=decide_eq_true ⟨Aaa,hn2⟩;unfold dJ;clear ha hok hk hkm hd1 hd2 hd3;unfold eY at *;generalize aD l key=p at *;obtain⟨pk,pm,pf,ps⟩:=p;dsimp only at *;subst hpk;generalize qX l ⟨pk,pm+dm*n,pf+df*n,ps+ds*n⟩ n=r at *;go_in
  go_wp2_with fail;refine Jb.mono ?_;rintro e w1 ⟨rfl,hb1⟩;have HB1:=Hq hb1;clear hb1 Jb;go_wp2_with (go_at_call 50;refine(wE _ _).mono ?_;rintro e w2 ⟨rfl,rfl⟩;rw [hAm])
  refine(HWI _ (HB1.alloc HB1.size _)).mono ?_;rintro e w3 ⟨v,rfl,hv,hown,hb3⟩;have HB3:=Hq ((HB1.alloc HB1.size _).trans (hb3.mono (by have:=HB1.size;simp;omega)));have IZ:=Hq (own_lower (b':=w.heap.size) hown (by have:=HB1.size;simp;omega));have HV:=Hq hv;clear hb3 hown hv;go_wp2_with fail;exact bodyPost_ret (v:= .tuple #[v,.bool r.2]) (by simp[results,Tryz.results145,go_sem]) rfl ⟨v,rfl,HV,IZ,HB3⟩
 .have hno:jh l=false\/¬(1<=n/\n<=1000000000):=by
   cases h:jh l
   .exact .inl rfl
   .exact .inr (λhn=>hin ⟨h,hn⟩)
  have HAD:=Hq (show dJ l key dm df ds n=(l,false) by
   rcases hno with h|h
   .exact Jh h
   .exact Kr h)
  have HWN:=Hq (λp w1 (hb:aI w w1)=>P7 (some ⟨b,off,none⟩) cap l p n w1 hl hkm (λh=>Aau) (GR.At.below ha hb) hno);rw [ah HAD];clear ha hin hno hk hkm hd1 hd2 hd3 HAD;generalize aD l key=p at *;obtain⟨pk,pm,pf,ps⟩:=p;cases hAm:decide (xM n 0 1000000000)
  all_goals
   go_in
   go_wp2_with fail
   refine Jb.mono ?_
   rintro e w1 ⟨rfl,hb1⟩
   have HB1:=Hq hb1
   clear hb1 Jb
   go_wp2_with (go_at_call 50;refine(wE _ _).mono ?_;rintro e w2 ⟨rfl,rfl⟩;rw [hAm])
   refine(HWN ⟨_,_,_,_⟩ _ (HB1.alloc HB1.size _)).mono ?_
   rintro e w3 ⟨v,rfl,hv,hown,hb3⟩
   have HB3:=Hq ((HB1.alloc HB1.size _).trans (hb3.mono (by have:=HB1.size;simp;omega)))
   have IZ:=Hq (own_lower (b':=w.heap.size) hown (by have:=HB1.size;simp;omega))
   have HV:=Hq hv
   clear hb3 hown hv
   go_wp2_with fail
   exact bodyPost_ret (v:= .tuple #[v,.bool false]) (by simp[results,Tryz.results145,go_sem]) rfl ⟨v,rfl,HV,IZ,HB3⟩
theorem FU (hl:l.length<=1048600) (hcap:l.length<=cap) (hk:∀p∈l,p.k.size<=1048576) (hkey:key.size<=1048576) (ha:aG w (some ⟨b,off,none⟩) l):
 Calls Tryz.prog 106 #[.slice (some ⟨b,off,none⟩) l.length cap,.string key,.int .i64 n] w (iV w (dJ l key (1) (1) (0) n)):=by
 have H:=Hq (E9 b off cap l key (1) (1) (0) n w hl hcap hk hkey Aaa Aaa Aaa ha);clear ha hk;generalize dJ l key (1) (1) (0) n=r at *;unfold iV at *;go_in
 open as4 in exact Oj
theorem adj (hl:l.length<=1048600) (hcap:l.length<=cap) (hk:∀p∈l,p.k.size<=1048576) (hkey:key.size<=1048576) (ha:aG w (some ⟨b,off,none⟩) l):
 Calls Tryz.prog 184 #[.slice (some ⟨b,off,none⟩) l.length cap,.string key,.int .i64 n] w (iV w (dJ l key (0) (1) (0) n)):=by
 have H:=Hq (E9 b off cap l key (0) (1) (0) n w hl hcap hk hkey Aaa Aaa Aaa ha);clear ha hk;generalize dJ l key (0) (1) (0) n=r at *;unfold iV at *;go_in
 open as3 in exact Oj
theorem QV (hl:l.length<=1048600) (hcap:l.length<=cap) (hk:∀p∈l,p.k.size<=1048576) (hkey:key.size<=1048576) (ha:aG w (some ⟨b,off,none⟩) l):
 Calls Tryz.prog 152 #[.slice (some ⟨b,off,none⟩) l.length cap,.string key,.int .i64 n] w (iV w (dJ l key (0) (-1) (0) n)):=by
 have H:=Hq (E9 b off cap l key (0) (-1) (0) n w hl hcap hk hkey Aaa Aaa Aaa ha);clear ha hk;generalize dJ l key (0) (-1) (0) n=r at *;unfold iV at *;go_in
 open as1 in exact Oj
theorem YL (hl:l.length<=1048600) (hcap:l.length<=cap) (hk:∀p∈l,p.k.size<=1048576) (hkey:key.size<=1048576) (ha:aG w (some ⟨b,off,none⟩) l):
 Calls Tryz.prog 147 #[.slice (some ⟨b,off,none⟩) l.length cap,.string key,.int .i64 n] w (iV w (dJ l key (0) (-1) (1) n)):=by
 have H:=Hq (E9 b off cap l key (0) (-1) (1) n w hl hcap hk hkey Aaa Aaa Aaa ha);clear ha hk;generalize dJ l key (0) (-1) (1) n=r at *;unfold iV at *;go_in
 open as0 in exact Oj
theorem Q5 (hl:l.length<=1048600) (hcap:l.length<=cap) (hk:∀p∈l,p.k.size<=1048576) (hkey:key.size<=1048576) (ha:aG w (some ⟨b,off,none⟩) l):
 Calls Tryz.prog 148 #[.slice (some ⟨b,off,none⟩) l.length cap,.string key,.int .i64 n] w (iV w (dJ l key (0) (1) (-1) n)):=by
 have H:=Hq (E9 b off cap l key (0) (1) (-1) n w hl hcap hk hkey Aaa Aaa Aaa ha);clear ha hk;generalize dJ l key (0) (1) (-1) n=r at *;unfold iV at *;go_in
 open asZ in exact Oj
end Go.Proofs.YtohmklmkjmlpjaaGreatDoor
