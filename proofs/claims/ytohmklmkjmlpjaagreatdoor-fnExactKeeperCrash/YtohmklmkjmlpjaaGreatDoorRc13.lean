/- Parts. -/
import Derived.Test.YtohmklmkjmlpjaaGreatDoorRc12
import Derived.Test.YtohmklmkjmlpjaaGreatDoorRc7
import Derived.Test.YtohmklmkjmlpjaaGreatDoorRc10
namespace Go.Proofs.YtohmklmkjmlpjaaGreatDoor
open Go.Proofs.Tryz
set_option maxHeartbeats 8000000
set_option maxRecDepth 100000
open Go.RowKit Go.Maps
open Mth
variable (g:Nat) (s:ByteArray) (i:Int) (w:World) {B n mb mp:Nat} {v b0 b1 b2 b3 b4 b5 b6:Value} {w':World} {ks:List ByteArray} {G:ByteArray->Pu} {l:List Pu} {xs:List Value} {t:ByteArray}
theorem Pq (a:Option Addr) (cap:Nat) (l:List Pu) (w:World) (hl:l.length<=1048600) (ha:aH w a l):
 Calls prog 153 #[.slice a l.length cap] w λe w'=>∃v,e= .returned v/\w'.ownsRow w.heap.size 108 4 v l.length (GR.flat fD l)/\aI w w':=by
 obtain⟨i0,hi,hz0,hz1,hz2⟩:=aGV FU;have q22:∀(w:World) (a:Option Addr) (n c n' c':Nat),(binOp .eql 35 (.slice a n c) (.slice none n' c')).run prog w= .ok (.bool a.isNone) w:=λw a n c n' c'=>aHO w _ _ a n c n' c' underlying35
 open aw2 in exact ahQ
theorem xP.of_own {w:World} (h:w.ownsRow B 108 4 v l.length (GR.flat fD l)) (hB:B<=w.heap.size):∃a c g,v= .slice a l.length c/\B<=g/\xP w a g l:=by
 obtain⟨a,c,rfl,hat⟩:=GR.own_at aU h;rcases h.2 with⟨hv,hn⟩|⟨g,cap,cur,hv,hg,hblk,_⟩
 .have hl:l=[]:=aGM hn;subst hl;exact⟨_,_,w.heap.size,rfl,hB,xP.nil⟩
 .cases hv
  refine⟨_,_,g,rfl,hg,λi hi=>?_⟩;exact aiD
theorem P9 (a:Option Addr) (cap:Nat) (l:List Pu) (w:World) (hl:l.length<=1048576) (hks:∀p∈l,p.k.size<=1048576) (ha:aH w a l):
 Calls prog 118 #[.slice a l.length cap] w λe w'=>∃a' c' g,w.heap.size<=g/\e= .returned (.slice a' l.length c')/\xP w' a' g l/\aI w w':=by
 have jR:=Hq (Pq a cap l w Aaa ha);have SI:=Hq hks;clear ha hks;go_in
 go_wp2_with fail;refine jR.mono ?_;rintro e w1 ⟨v,rfl,hown,hb1⟩;obtain⟨a',c',g,rfl,hg,hW⟩:=xP.of_own hown hb1.size;have HW:=Hq hW;have HB1:=Hq hb1;clear hown hb1 hW jR;go_wp2_with fail;go_loopw [10] (λi wr=>∃k:Nat,k<=l.length/\i= .int .i64 k/\xP wr a' g l/\aI w wr) (λi _=>l.length - (intOf i).toNat)
 case atStart=>exact⟨0,aGB _,rfl,HW,HB1⟩
 case round=>
  obtain⟨k,hk,rfl,hB,hbel⟩:=hrel;have HB:=Hq hB;have dS:=Hq hbel;clear hB hbel;by_cases hlt:k < l.length
  .obtain⟨e0,hgw,⟨q0,q1,q2,q3⟩,_⟩:=xP.four HB k hlt;subst e0;have hkk:=ah SI l[k] (aGz hlt);have hse:l.set k l[k]=l:=List.set_getElem_self hlt;have HSE:=Hq hse;clear hse;open axg in exact ahV
  .open aob in exact vT
open Go.RowKit
theorem mU:∀(vs:List Value) {w:World} {g o:Nat} {xs:List Value} {t:TypeId},w.heap[g]?=some (.cells xs.toArray t (0,0))->(w.setCells g o vs).heap[g]?=some (.cells (GR.setRun xs o vs).toArray t (0,0)):=by
 intro vs;induction vs with
 |nil=>intro w g o xs t h;exact h
 |cons v vs ih=>
  intro w g o xs t h;refine ih (xs:=xs.set o v) ?_;have:=Fo.blk_set h o v;simpa using this
theorem qR {g g':Nat} (hne:g'≠g):∀(vs:List Value) (w:World) (o:Nat),(w.setCells g o vs).heap[g']?=w.heap[g']?:=by
 intro vs;induction vs with
 |nil=>intro w o;rfl
 |cons v vs ih=>intro w o;exact(ih (w.setCell ⟨g,o,none⟩ v) (o+1)).trans (aGx _ _ _ _ hne)
theorem setCells_size {g:Nat}:∀(vs:List Value) (w:World) (o:Nat),(w.setCells g o vs).heap.size=w.heap.size:=by
 intro vs;induction vs with
 |nil=>intro w o;rfl
 |cons v vs ih=>intro w o;exact(ih (w.setCell ⟨g,o,none⟩ v) (o+1)).trans (Fo.setCell_size w _ v)
theorem gY {g:Nat}:∀(vs:List Value) (w:World) (o:Nat),(w.setCells g o vs).os=w.os/\(w.setCells g o vs).tape=w.tape/\(w.setCells g o vs).output=w.output:=by
 intro vs;induction vs with
 |nil=>intro w o;exact⟨rfl,rfl,rfl⟩
 |cons v vs ih=>intro w o;exact ih (w.setCell ⟨g,o,none⟩ v) (o+1)
theorem qQ (w:World) (g o:Nat) (vs:List Value):w.grownBy (w.setCells g o vs) (some g):=
 ⟨(gY vs w o).1,(gY vs w o).2.1,(gY vs w o).2.2,by rw [setCells_size];exact aGh _,λk _ hne=>qR (λe=>hne Aap) vs w o⟩
theorem qU (a m b vs:List Value) (h:vs.length=m.length):GR.setRun (a++(m++b)) a.length vs=a++(vs++b):=by
 have:=GR.setRun_append_right a vs 0 (m++b);rw [aIa] at this;rw [this,GR.setRun_head vs m b h]
def xV (ks:List ByteArray) (i:Nat) (key:ByteArray):List Value:=(ks.map Value.string).take i++(.string key::(ks.map Value.string).drop i)
theorem ow (ks:List ByteArray) (i:Nat) (key:ByteArray) (hi:i<=ks.length):(xV ks i key).length=ks.length+1:=by
 unfold xV;simp;omega
theorem AL (ks:List ByteArray):∀v∈ks.map Value.string,v.oneCell'=true:=by
 intro v hv;obtain⟨k,_,rfl⟩:=aHQ.1 hv;rfl
theorem az4 (B:Nat) (v:Value) (l:List Pu) (key:ByteArray) (w:World) (hp:l.Pairwise M4) (hl:l.length<=20) (h:w.ownsRow B 9 1 v l.length ((l.map (·.k)).map Value.string)):
 Calls prog 310 #[v,.string key] w λe w'=>e= .returned (.tuple #[.int .i64 (place l key:Nat),.bool (found l key)])/\∃q,w'=w.drewN q:=by
 by_cases h0:l.length=0
 .have hl0:l=[]:=aGM h0;subst hl0
  have hv:∃a c,v= .slice a 0 c:=by
   rcases h.2 with⟨rfl,_⟩|⟨g,cap,cur,rfl,_⟩
   .exact⟨none,0,rfl⟩
   .exact⟨_,_,rfl⟩
  obtain⟨a,c,rfl⟩:=hv;exact(Any2.slices_BinarySearch_string_empty F6 a c key w).mono λe w' ⟨he,hw⟩=>⟨by rw [he];rfl,0,hw⟩
 .obtain⟨g,cap,rfl,_,_⟩:=h.form Aaa
  have hb:=Any2.slices_BinarySearch_string F6 g 0 l.length cap (wJ l key) key w Aaa (λj hj=>by
   have hc:=h.cellAt j Aaa
   rw [aHj,hc]
   unfold wJ
   simp[hj])
  rw [abG hp key,Pm l key] at hb;exact hb
theorem MW {w:World} {g cap:Nat} {i:Nat} {key:ByteArray} {bs:List Value} (hi:i<=ks.length) (hg:B<=g) (hcap:ks.length+1<=cap) (hcm:cap<=maxLen) (hlen:(xV ks i key++bs).length=cap) (h:w.heap[g]?=some (.cells (xV ks i key++bs).toArray 9 (0,0))):w.ownsRow B 9 1 (.slice (some ⟨g,0,none⟩) (ks.length+1) cap) (ks.length+1) (xV ks i key):=by
 have hl:=ow ks i key hi;refine⟨Aaa,.inr ⟨g,cap,_,rfl,hg,h,hcap,hcm,by rw [aHh];omega,?_⟩⟩;rw [List.toList_toArray,Nat.mul_one,<-hl,List.take_left'];rfl
theorem vI (n:Nat):(Builtin.zeroCells (Value.string ⟨#[]⟩).cells n).toList.length=n:=by
 rw [aG2,size_zeroCells];simp[Value.cells]
theorem Ch (w:World) (o:Obj) (row:Option Nat):w.grownBy (w.drew.alloc o) row:=
 ⟨rfl,rfl,rfl,Aac,λk hk _=>aGv w.drew _ _ hk⟩
theorem Qs (ks:List ByteArray) (key:ByteArray):xV ks ks.length key=ks.map Value.string++[.string key]:=by
 unfold xV;rw [aHR Aac,List.drop_of_length_le Aac]
theorem FX (B:Nat) (base:Option Addr) (c:Nat) (ks:List ByteArray) (key:ByteArray) (vb:Nat) (w:World) (hn:ks.length<=20) (hB:B<=w.heap.size) (hnc:ks.length<=c) (hroom:c < ks.length+1) (hnil:base=none->ks.length=0) (hcs:∀a,base=some a->∀(j:Nat) (v:Value),(ks.map Value.string)[j]?=some v->w.cell? (a.add j)=some v) (hvs:∀(j:Nat) (u:Value),[Value.string key][j]?=some u->w.cell? ⟨vb,0+j,none⟩=some u) (h1v:∀u∈[Value.string key],u.oneCell'=true) (row:Option Nat):
 Calls prog 311 #[.slice base ks.length c,.int .i64 (ks.length:Nat),.slice (some ⟨vb,0,none⟩) 1 1] w λe w'=>∃v',e= .returned v'/\w'.ownsRow B 9 1 v' (ks.length+1) (xV ks ks.length key)/\w.grownBy w' row:=by
 refine(Any2.slices_Insert_string_end_grow uS base ks.length c vb 0 1 1 (ks.map Value.string) [.string key] w Aaa hnc hroom Aaa Aac rfl hnil hcs hvs h1v).mono λe w' ⟨he,hw⟩=>?_
 have hge:=grownCap_ge w (ks.length+1) c (vO.t 9);have hle:=grownCap_le_maxLen w (ks.length+1) c (vO.t 9) Aai;refine⟨_,he,?_,by rw [hw];exact Ch w _ row⟩;generalize grownCap w (ks.length+1) c (vO.t 9)=cap at *;refine MW (w:=w') (bs:=(Builtin.zeroCells (Value.string ⟨#[]⟩).cells (cap - (ks.length+1))).toList) (aGh _) hB hge hle ?_ ?_
 .rw [aGp,vI,ow _ _ _ (aGh _)];omega
 .rw [hw];have:=aGg w.drew (.cells ((ks.map Value.string++[Value.string key]).toArray++Builtin.zeroCells (Value.string ⟨#[]⟩).cells (cap - (ks.length+1))) (vO.t 9));refine Eq.trans this ?_;rw [Qs]
  have e:(ks.map Value.string++[Value.string key]).toArray++Builtin.zeroCells (Value.string ⟨#[]⟩).cells (cap - (ks.length+1))=(ks.map Value.string++[Value.string key]++(Builtin.zeroCells (Value.string ⟨#[]⟩).cells (cap - (ks.length+1))).toList).toArray:=by
   apply Array.toList_inj.1
   simp
  rw [e];rfl
theorem alV (B:Nat) (v:Value) (ks:List ByteArray) (i:Nat) (key:ByteArray) (vb:Nat) (w:World) (hi:i<=ks.length) (hn:ks.length<=20) (hB:B<=w.heap.size) (h:w.ownsRow B 9 1 v ks.length (ks.map Value.string)) (hv:w.heap[vb]?=some (.cells #[.string key] 9 (0,0))) (hvb:v.ownBlock≠some vb):
 Calls prog 311 #[v,.int .i64 (i:Nat),.slice (some ⟨vb,0,none⟩) 1 1] w λe w'=>∃v',e= .returned v'/\w'.ownsRow B 9 1 v' (ks.length+1) (xV ks i key)/\w.grownBy w' v.ownBlock:=by
 have hvs:∀(j:Nat) (u:Value),[Value.string key][j]?=some u->w.cell? ⟨vb,0+j,none⟩=some u:=λj u hu=>by
  rw [aGu w vb _ _ 9 (0,0) hv,aHj]
  simpa using hu
 have h1v:∀u∈[Value.string key],u.oneCell'=true:=λu hu=>by rw [aGA.1 hu];rfl
 have hfree:∀j,w.frozen? ⟨vb,j,none⟩=false:=λj=>by unfold World.frozen?;rw [hv];simp
 have hsa:w.shape? vb=some (9,1):=by unfold World.shape?;rw [hv];rfl
 rcases h.2 with⟨rfl,h0⟩|⟨g,cap,cur,rfl,hg,hblk,hnc,hcm,hcs,htk⟩
 .have hi0:i=ks.length:=Aaa
  subst hi0;have:=FX B none 0 ks key vb w hn hB Aaa Aaa (λ_=>h0) (λa ha=>by cases ha) hvs h1v none;rw [h0] at this ⊢;exact this
 have aEq:vb≠g:=λe=>hvb (by rw [e];rfl)
 obtain⟨sp,hcur⟩:∃sp,cur.toList=ks.map Value.string++sp:=⟨cur.toList.drop ks.length,by
  rw [Nat.mul_one] at htk
  rw [<-htk,aGW]⟩
 have hblk2:w.heap[g]?=some (.cells (ks.map Value.string++sp).toArray 9 (0,0)):=by rw [hblk,<-hcur]
 have acE:ks.length+sp.length=cap:=by
  have:=congrArg List.length hcur;rw [aG2,hcs] at this;simp at this;omega
 have hcell:∀j,w.cell? ⟨g,j,none⟩=(ks.map Value.string++sp)[j]?:=λj=>by
  rw [aGu w g j _ 9 (0,0) hblk2]
  simp
 have hfz:∀j,w.frozen? ⟨g,j,none⟩=false:=λj=>by unfold World.frozen?;rw [hblk2];simp
 have alv:∀(j:Nat) (u:Value),(ks.map Value.string)[j]?=some u->w.cell? ⟨g,0+j,none⟩=some u:=λj u hu=>by
  rw [aHj,hcell,aHJ (aHe.1 hu).1]
  exact hu
 rcases aHa i ks.length with hlt|hge
 .obtain⟨ra,hra⟩:∃ra,ra=(ks.map Value.string).take i:=⟨_,rfl⟩;obtain⟨rb,hrb⟩:∃rb,rb=(ks.map Value.string).drop i:=⟨_,rfl⟩;have hsplit:ks.map Value.string=ra++rb:=by rw [hra,hrb,aGW]
  have aAI:ra.length=i:=by rw [hra];simp;omega
  have aFH:rb.length=ks.length - i:=by rw [hrb];simp
  have hins:xV ks i key=ra++(.string key::rb):=by unfold xV;rw [<-hra,<-hrb]
  by_cases hroom:ks.length+1<=cap
  .have hsb:w.shape? g=some (9,cap):=by unfold World.shape?;rw [hblk2];simp;omega
   refine(Any2.slices_Insert_string_shift uS g 0 ks.length cap i vb 0 1 1 (ks.map Value.string) [.string key] w hlt Aaa hroom Acg aEq Aac rfl alv
    (λj hj=>by rw [aHj,hcell];simp;omega) (λj _=>hfz _) hvs (AL ks) h1v 9 9 1 cap hsa hsb Aaa (hfree _) (hfree _)).mono λe w' ⟨he,hw⟩=>?_
   obtain⟨s0,sp',hsp⟩:∃s0 sp',sp=s0::sp':=by
    exact ajH
   obtain⟨x0,A,hxA,hAl⟩:∃x0 A,rb++[s0]=x0::A/\A.length=rb.length:=by
    cases hb:rb++[s0] with
    |nil=>simp at hb
    |cons x0 A=>
     refine⟨x0,A,rfl,?_⟩;have:=congrArg List.length hb;simp at this;omega
   have hxs:ks.map Value.string++sp=(ra++[x0])++(A++sp'):=by
    rw [hsplit,hsp];have:ra++rb++s0::sp'=ra++((rb++[s0])++sp'):=Aac
    rw [this,hxA];simp
   have e1:GR.setRun (ks.map Value.string++sp) (0+(i+1)) rb=(ra++[x0])++(rb++sp'):=by
    rw [hxs];have:=qU (ra++[x0]) A sp' rb hAl.symm;rw [show(ra++[x0]).length=0+(i+1) by simp;omega] at this;exact this
   have e2:GR.setRun ((ra++[x0])++(rb++sp')) (0+i) [.string key]=xV ks i key++sp':=by
    have:=qU ra [x0] (rb++sp') [.string key] rfl;rw [aAI] at this;rw [aHj,hins];have e:(ra++[x0])++(rb++sp')=ra++([x0]++(rb++sp')):=Aac
    rw [e,this];simp
   refine⟨_,he,MW (bs:=sp') hi hg hroom hcm ?_ ?_,?_⟩
   .rw [aGp,ow ks i key hi];rw [hsp] at acE;simp at acE;omega
   .rw [hw,<-hrb];have h1:=mU rb (w:=w.drew) (o:=0+(i+1)) hblk2;rw [e1] at h1;have h2:=mU [.string key] (o:=0+i) h1;rw [e2] at h2;exact h2
   .rw [hw];have h1:=qQ w.drew g (0+(i+1)) ((ks.map Value.string).drop i);have h2:=qQ (w.drew.setCells g (0+(i+1)) ((ks.map Value.string).drop i)) g (0+i) [.string key];exact⟨h2.os.trans h1.os,h2.tape.trans h1.tape,h2.output.trans h1.output,aGm h1.size h2.size,λk hk hne=>(h2.block k (aGq hk h1.size) hne).trans (h1.block k hk hne)⟩
  .have aE3:cap=ks.length:=Aaa
   refine(Any2.slices_Insert_string_grow uS g 0 ks.length cap i vb 0 1 1 (ks.map Value.string) [.string key] w hlt Aaa hnc Aaa Aaa Aac rfl alv hvs (AL ks) h1v).mono λe w' ⟨he,hw⟩=>?_
   have hge:=grownCap_ge w (ks.length+1) cap (vO.t 9);have hle:=grownCap_le_maxLen w (ks.length+1) cap (vO.t 9) Aai;generalize grownCap w (ks.length+1) cap (vO.t 9)=cap' at *;obtain⟨z1,hz1⟩:∃z1,z1=(Builtin.zeroCells (Value.string ⟨#[]⟩).cells (ks.length+1 - i)).toList:=⟨_,rfl⟩;obtain⟨z2,hz2⟩:∃z2,z2=(Builtin.zeroCells (Value.string ⟨#[]⟩).cells (cap' - (ks.length+1))).toList:=⟨_,rfl⟩;have afA:z1.length=ks.length+1 - i:=by rw [hz1,vI]
   have D6:z2.length=cap' - (ks.length+1):=by rw [hz2,vI]
   obtain⟨x0,A,hxA⟩:∃x0 A,z1=x0::A:=by
    cases z1 with
    |nil=>simp at afA;omega
    |cons x0 A=>exact⟨x0,A,rfl⟩
   have hAl:A.length=rb.length:=by rw [hxA] at afA;simp at afA;omega
   have hall:(w.alloc (.cells (((ks.map Value.string).take i).toArray++Builtin.zeroCells (Value.string ⟨#[]⟩).cells (ks.length+1 - i)++Builtin.zeroCells (Value.string ⟨#[]⟩).cells (cap' - (ks.length+1))) (vO.t 9))).heap[w.heap.size]?=some (.cells (ra++([x0]++(A++z2))).toArray 9 (0,0)):=by
    refine Eq.trans (aGg w _) ?_
    have e:((ks.map Value.string).take i).toArray++Builtin.zeroCells (Value.string ⟨#[]⟩).cells (ks.length+1 - i)++Builtin.zeroCells (Value.string ⟨#[]⟩).cells (cap' - (ks.length+1))=(ra++([x0]++(A++z2))).toArray:=by
     apply Array.toList_inj.1
     rw [aIe,aIe,<-hz1,<-hz2,hxA,hra];simp
    rw [e];rfl
   have e1:GR.setRun (ra++([x0]++(A++z2))) i [.string key]=(ra++[.string key])++(A++z2):=by
    have:=qU ra [x0] (A++z2) [.string key] rfl;rw [aAI] at this;rw [this];simp
   have e2:GR.setRun ((ra++[.string key])++(A++z2)) (i+1) rb=xV ks i key++z2:=by
    have:=qU (ra++[.string key]) A z2 rb hAl.symm;rw [show(ra++[Value.string key]).length=i+1 by simp;omega] at this;rw [this,hins];simp
   refine⟨_,he,MW (bs:=z2) hi hB hge hle ?_ ?_,?_⟩
   .rw [aGp,ow ks i key hi];omega
   .rw [hw,<-hrb];have h1:=mU [.string key] (w:=(w.alloc (.cells (((ks.map Value.string).take i).toArray++Builtin.zeroCells (Value.string ⟨#[]⟩).cells (ks.length+1 - i)++Builtin.zeroCells (Value.string ⟨#[]⟩).cells (cap' - (ks.length+1))) (vO.t 9))).drew) (o:=i) hall;rw [e1] at h1;have h2:=mU rb (w:=((w.alloc (.cells (((ks.map Value.string).take i).toArray++Builtin.zeroCells (Value.string ⟨#[]⟩).cells (ks.length+1 - i)++Builtin.zeroCells (Value.string ⟨#[]⟩).cells (cap' - (ks.length+1))) (vO.t 9))).drew.setCells w.heap.size i [.string key]).drew) (o:=i+1) h1;rw [e2] at h2;exact h2
   .rw [hw];refine⟨?_,?_,?_,?_,?_⟩
    .rw [(gY _ _ _).1];exact(gY _ _ _).1
    .rw [(gY _ _ _).2.1];exact(gY _ _ _).2.1
    .rw [(gY _ _ _).2.2];exact(gY _ _ _).2.2
    .rw [setCells_size];refine aGm ?_ (Nat.le_of_eq (setCells_size _ _ _).symm);show w.heap.size<=(w.alloc _).heap.size
     simp
    .intro k hk _;rw [qR Aaa];refine(qR (g:=w.heap.size) (g':=k) Aaa _ _ _).trans ?_;exact aGv w _ _ hk
 .have hie:i=ks.length:=Aaa
  subst hie;by_cases hroom:ks.length+1<=cap
  .refine(Any2.slices_Insert_string_end_room uS g 0 ks.length cap vb 0 1 1 [.string key] w Aaa hroom Acg rfl
    (λj hj=>by rw [aHj,hcell];simp;omega) (λj _=>hfz _) hvs h1v).mono λe w' ⟨he,hw⟩=>?_
   obtain⟨s0,sp',hsp⟩:∃s0 sp',sp=s0::sp':=by
    exact ajH
   have e1:GR.setRun (ks.map Value.string++sp) (0+ks.length) [.string key]=xV ks ks.length key++sp':=by
    have:=qU (ks.map Value.string) [s0] sp' [.string key] rfl;rw [aHi] at this;rw [aHj,hsp,Qs];have e:ks.map Value.string++s0::sp'=ks.map Value.string++([s0]++sp'):=Aac
    rw [e,this];simp
   refine⟨_,he,MW (bs:=sp') (aGh _) hg hroom hcm ?_ ?_,by rw [hw];exact qQ w g (0+ks.length) [.string key]⟩
   .rw [aGp,ow ks _ key (aGh _)];rw [hsp] at acE;simp at acE;omega
   .rw [hw];have h1:=mU [.string key] (w:=w) (o:=0+ks.length) hblk2;rw [e1] at h1;exact h1
  .exact FX B (some ⟨g,0,none⟩) cap ks key vb w hn hB hnc Aaa (λha=>by cases ha) (λa ha j u hu=>by
    injection ha with ha
    subst ha
    have e:(⟨g,0,none⟩:Addr).add j=⟨g,0+j,none⟩:=by unfold Addr.add;split<;>simp_all
    rw [e]
    exact alv j u hu) hvs h1v (some g)
structure PM (w:World) (B mp mb n:Nat) (v:Value) (ks:List ByteArray) (G:ByteArray->Pu):Prop where
 blk:w.heap[mp]?=some (.cells #[v,.map (some mb)] 352 (0,0))
 row:w.ownsRow B 9 1 v ks.length (ks.map Value.string)
 map:iV w mb n G
 lop:B<=mp
 lom:B<=mb
theorem own_ne {w:World} {g:Nat} {t:TypeId} {cs:Array Value} {fr:Nat×Nat} (h:w.ownsRow B 9 1 v n xs) (hg:w.heap[g]?=some (.cells cs t fr)) (ht:t≠9):v.ownBlock≠some g:=by
 rcases h.2 with⟨rfl,_⟩|⟨g',cap,cur,rfl,_,hb,_⟩
 .intro e;cases e
 .intro e;injection e with e
  have e':g'=g:=e;subst e';rw [hg] at hb;injection hb with hb
  injection hb with h1 h2 h3
  exact ht h2
theorem yX {w:World} {g:Nat} {es:Array MapEntry} {clock:Nat} (h:w.ownsRow B 9 1 v n xs) (hg:w.heap[g]?=some (.map es clock)):v.ownBlock≠some g:=by
 rcases h.2 with⟨rfl,_⟩|⟨g',cap,cur,rfl,_,hb,_⟩
 .intro e;cases e
 .intro e;injection e with e
  have e':g'=g:=e;subst e';rw [hg] at hb;cases hb
theorem iV.blk {w:World} (h:iV w mb n G):∃es clock,w.heap[mb]?=some (.map es clock):=by
 obtain⟨D,⟨es,clock,h1,_⟩,_⟩:=h;exact⟨es,clock,h1⟩
theorem PM.mpmb {w:World} (h:PM w B mp mb n v ks G):mp≠mb:=by
 obtain⟨es,clock,hb⟩:=h.map.blk;intro e;have:=h.blk;rw [e,hb] at this;cases this
theorem PM.below {w:World} (h:PM w B mp mb n v ks G) (hb:aI w w'):PM w' B mp mb n v ks G:=by
 have hg:w.grownBy w' none:=⟨hb.os,hb.tape,hb.output,hb.size,λk hk _=>hb.block k hk⟩;refine⟨?_,?_,?_,h.lop,h.lom⟩
 .rw [hb.block _ (Fo.lt_of_blk h.blk)];exact h.blk
 .refine h.row.kept hg ?_;exact ajI
 .exact h.map.kept (hb.block _ h.map.lt)
theorem PM.drewN {w:World} {q:Nat} (h:PM w B mp mb n v ks G):PM (w.drewN q) B mp mb n v ks G:=⟨h.blk,h.row,h.map,h.lop,h.lom⟩
theorem PM.turned {w:World} {n':Nat} {G':ByteArray->Pu} (h:PM w B mp mb n v ks G) (hk:Keeps mb w w') (hm:iV w' mb n' G'):PM w' B mp mb n' v ks G':=by
 have hg:w.grownBy w' (some mb):=⟨hk.os,hk.tape,hk.output,hk.size,λk hl hne=>hk.block k hl (λe=>hne Aap)⟩;obtain⟨es,clock,hb⟩:=h.map.blk;refine⟨?_,?_,hm,h.lop,h.lom⟩
 .rw [hk.block _ (Fo.lt_of_blk h.blk) h.mpmb];exact h.blk
 .refine h.row.kept hg (.inr (yX h.row hb))
theorem Dg {w:World} {g:Nat} (hk:Keeps g w w') (hg:B<=g) (hB:B<=w.heap.size):Below B w w':=⟨hk.os,hk.tape,hk.output,hk.size,λk hl=>hk.block k Aaa Aaa⟩
def Qp (l:List Pu) (key:ByteArray):List ByteArray:=(l.map (·.k)).take (place l key)++key::(l.map (·.k)).drop (place l key)
theorem acV (l:List Pu) (key:ByteArray):xV (l.map (·.k)) (place l key) key=(Qp l key).map Value.string:=by
 unfold xV Qp;simp
theorem Dc (l:List Pu) (key:ByteArray):(Qp l key).length=l.length+1:=by
 unfold Qp;have:=mO l key;simp;omega
theorem Np {p:Pu} (h:found l p.k=false):(jr l p).map (·.k)=Qp l p.k:=by
 rw [yw h];unfold Qp;simp
theorem Ur (B mp mb n:Nat) (v:Value) (l:List Pu) (G:ByteArray->Pu) (key:ByteArray) (E:Nat->Addr) (w:World) (hp:l.Pairwise M4) (hl:l.length<=20) (hB:B<=w.heap.size) (h:PM w B mp mb n v (l.map (·.k)) G) (he:iK w E):
 Calls prog 304 #[.pointer (some ⟨mp,0,none⟩),.string key] w λe w'=>Below B w w'/\(∀k,k < w.heap.size->k≠mp->v.ownBlock≠some k->w'.heap[k]?=w.heap[k]?)/\
  ((found l key=true/\e= .returned .nilIface/\PM w' B mp mb n v (l.map (·.k)) G)\/
   (found l key=false/\l.length=20/\e= .returned (uJ (E 5)))\/
   (found l key=false/\l.length < 20/\e= .returned .nilIface/\∃v',PM w' B mp mb n v' (Qp l key) G)):=by
 have hrow:=h.row;rw [aHi] at hrow
 obtain⟨a,cap,rfl⟩:∃a cap,v= .slice a l.length cap:=by
  exact ajn
 have HBS:=Hq (az4 B _ l key w hp hl hrow);have hmp:=Fo.lt_of_blk h.blk;have hmb:=h.map.lt;obtain⟨⟨m0,m1⟩,f0,f1⟩:=mV h.blk;have ve:=he.var 5 Aaa;have HH:=Hq h;have HR:=Hq hrow;clear h hrow he;cases hf:found l key
 .by_cases h20:l.length=20
  .have aAD:((l.length:Int) == 20)=true:=Aag
   have H20:=Hq h20;clear h20;open avl in exact aaO
  .have aAD:((l.length:Int) == 20)=false:=Aag
   open avk in exact aaO
 .open avj in exact aaO
theorem acN (B mp mb n:Nat) (v:Value) (l:List Pu) (G:ByteArray->Pu) (w:World) (hl:l.length<=20) (hG:∀p∈l,G p.k=p) (hks:∀p∈l,p.k.size<=1048576) (h:PM w B mp mb n v (l.map (·.k)) G):
 Calls prog 287 #[.pointer (some ⟨mp,0,none⟩)] w λe w'=>e= .returned (.slice (some ⟨w.heap.size,0,none⟩) l.length l.length)/\tK w' w.heap.size l/\aI w w':=by
 have hrow:=h.row;rw [aHi] at hrow
 obtain⟨a,cap,rfl⟩:∃a cap,v= .slice a l.length cap:=by
  exact ajn
 have hmk:=Dh l.length Aaa;have HH:=Hq h;have HG:=Hq hG;have SI:=Hq hks;have HR:=Hq hrow;obtain⟨⟨m0,m1⟩,_⟩:=mV h.blk;have hmp:=Fo.lt_of_blk h.blk;clear h hG hks hrow;go_in
 go_wp2_with fail;go_loopw [17] (λi wr=>∃k:Nat,k<=l.length/\i= .int .i64 k/\tK wr w.heap.size (l.take k++List.replicate (l.length - k) ⟨ByteArray.empty,0,0,0⟩)/\aI w wr) (λi _=>l.length - (intOf i).toNat)
 case atStart=>exact ai5
 case round=>
  open arK in exact Tw
structure dW (g:Nat) (w w':World):Prop where
 os:w'.os=w.os
 tape:w'.tape=w.tape
 output:w'.output=w.output
 size:w.heap.size<=w'.heap.size
 block:∀k,k < w.heap.size->k≠g->w'.heap[k]?=w.heap[k]?
theorem dW.of_below {g:Nat} {w:World} (h:aI w w'):dW g w w':=⟨h.os,h.tape,h.output,h.size,λk hk _=>h.block k hk⟩
theorem dW.trans {g:Nat} {a b c:World} (h:dW g a b) (k:dW g b c):dW g a c:=
 ⟨k.os.trans h.os,k.tape.trans h.tape,k.output.trans h.output,aGm h.size k.size,λi hi hg=>(k.block i (aGq hi h.size) hg).trans (h.block i hi hg)⟩
theorem dW.set {g i:Nat} {w:World} (v:Value):dW g w (w.setCell ⟨g,i,none⟩ v):=⟨rfl,rfl,rfl,Aaq,λk _ hg=>aGx _ _ _ _ hg⟩
theorem dW.below {g:Nat} {a w:World} (hb:Below B a w) (h:dW g w w') (hg:B<=g) (hB:B<=w.heap.size):Below B a w':=
 ⟨h.os.trans hb.os,h.tape.trans hb.tape,h.output.trans hb.output,aGm hb.size h.size,λk hk=>(h.block k Aaa Aaa).trans (hb.block k hk)⟩
theorem dW.obj {g k:Nat} {w:World} {o:Obj} (h:dW g w w') (hk:w.heap[k]?=some o) (hne:k≠g):w'.heap[k]?=some o:=by rw [h.block k (dA hk) hne];exact hk
abbrev Zb (p:Int):Ending:= .panicked [{v:= .iface 211 (.agg #[.int .i64 p]),recovered:=false}]
abbrev jT (w:World) (g:Nat) (s:ByteArray) (i:Int):Prop:=w.heap[g]?=some (.cells #[.string s,.int .i64 i] 228 (0,0))
theorem jT.two {w:World} {g:Nat} {s:ByteArray} {i:Int} (h:jT w g s i):w.cell? ⟨g,0,none⟩=some (.string s)/\w.cell? ⟨g,1,none⟩=some (.int .i64 i)/\w.frozen? ⟨g,0,none⟩=false/\w.frozen? ⟨g,1,none⟩=false:=by
 have hf:∀i,w.frozen? ⟨g,i,none⟩=false:=λi=>by unfold World.frozen?;rw [h];simp
 have hc:∀j,w.cell? ⟨g,j,none⟩=#[Value.string s,Value.int .i64 i][j]?:=λj=>aGu w g j _ 228 (0,0) h
 exact⟨hc 0,hc 1,hf 0,hf 1⟩
theorem jT.set {w:World} {g:Nat} {s:ByteArray} {i:Int} (h:jT w g s i) (j:Int):jT (w.setCell ⟨g,1,none⟩ (.int .i64 j)) g s j:=blk_set h 1 (.int .i64 j)
theorem jH (w:World) (n:Nat):Below w.heap.size w (w.drewN n):=⟨rfl,rfl,rfl,aGh _,λ_ _=>rfl⟩
theorem Nq (h:jT w g s i):Calls prog 230 #[.pointer (some ⟨g,0,none⟩)] w λe w'=>e=Zb i/\w=w':=by
 obtain⟨c0,c1,f0,f1⟩:=h.two;clear h;go_in
 go_wp2_with fail;exact⟨rfl,rfl,rfl⟩
theorem Xl (g:Nat) (s:ByteArray) (i n:Int) (w:World) (h:jT w g s i) (hn:n < 0):Calls prog 255 #[.pointer (some ⟨g,0,none⟩),.int .i64 n] w λe w'=>e=Zb i/\w=w':=by
 have HF:=Hq (λw1 h=>Nq g s i w1 h);have H:=Hq h;clear h;go_in
 go_wp2_with fail;refine(HF _ H).mono ?_;rintro e w1 ⟨rfl,rfl⟩;go_wp2_with fail;exact⟨rfl,rfl,rfl⟩
theorem QX (g:Nat) (s:ByteArray) (i n:Int) (w:World) (h:jT w g s i) (hn:0<=n):Calls prog 255 #[.pointer (some ⟨g,0,none⟩),.int .i64 n] w λe w'=>e= .returned (.tuple #[])/\w.setCell ⟨g,1,none⟩ (.int .i64 n)=w':=by
 obtain⟨c0,c1,f0,f1⟩:=h.two;have hn2:¬n < 0:=Aaa
 clear h;go_in
 go_wp2_with fail;exact aIi (v:= .tuple #[]) (by simp[results,results255,go_sem]) rfl ⟨rfl,rfl⟩
theorem Ze (g:Nat) (s:ByteArray) (w:World) (h:jT w g s 0) (hs:s.size=0):Calls prog 225 #[.pointer (some ⟨g,0,none⟩)] w λe w'=>e=Zb 0/\aI w w':=by
 have HF:=Hq (λw1 h=>Nq g s 0 w1 h);obtain⟨c0,c1,f0,f1⟩:=h.two;have H:=Hq h;have he:((0:Int) == (s.size:Int))=true:=by simp[hs]
 clear h;go_in
 go_upto_region 1 with fail;go_quiet (fail);go_wp2_with fail;refine(HF _ (aK H (jH w _))).mono ?_;rintro e w1 ⟨rfl,rfl⟩;go_wp2_with fail;exact⟨rfl,rfl,jH w _⟩
theorem Va (g:Nat) (s:ByteArray) (w:World) (h:jT w g s 0) (hs:0 < s.size):Calls prog 225 #[.pointer (some ⟨g,0,none⟩)] w λe w'=>e= .returned (.int .i64 (s[0].toNat:Int))/\jT w' g s 1/\dW g w w':=by
 obtain⟨c0,c1,f0,f1⟩:=h.two;have H:=Hq h;have he:((0:Int) == (s.size:Int))=false:=Aag
 have he2:¬((0:Int)=(s.size:Int)):=Aaa
 have hi0:(0:Int) < (s.size:Int):=Aaa
 open aue in exact Wo
theorem QY (hs:s.size<=maxLen) (h:jT w g s i) (hH:Handle w) (hE:kR s i < 0):Calls prog 226 #[.pointer (some ⟨g,0,none⟩)] w λe w'=>e=Zb i/\aI w w':=by
 have HC:=Hq (λw1 h=>yP s i hs w1 h);have HG:=Hq (λw1 h=>Xl g s i (kR s i) w1 h hE);open aub in exact Wn
theorem KO (hs:s.size<=maxLen) (h:jT w g s i) (hH:Handle w) (hE:0<=kR s i):Calls prog 226 #[.pointer (some ⟨g,0,none⟩)] w λe w'=>e= .returned (.int .i64 (vw s i))/\jT w' g s (kR s i)/\dW g w w':=by
 have HC:=Hq (λw1 h=>yP s i hs w1 h);have HG:=Hq (λw1 h=>QX g s i (kR s i) w1 h hE);open aua in exact Wn
theorem KP (hs:s.size<=maxLen) (h:jT w g s i) (hH:Handle w) (hE:jc s i < 0):Calls prog 227 #[.pointer (some ⟨g,0,none⟩)] w λe w'=>e=Zb i/\aI w w':=by
 have HC:=Hq (λw1 h=>MQ s i hs w1 h);have HG:=Hq (λw1 h=>Xl g s i (jc s i) w1 h hE);open at7 in exact Wn
theorem vB (hs:s.size<=maxLen) (h:jT w g s i) (hH:Handle w) (hE:0<=jc s i):Calls prog 227 #[.pointer (some ⟨g,0,none⟩)] w λe w'=>e= .returned (.string (j6 s i))/\jT w' g s (jc s i)/\dW g w w':=by
 have HC:=Hq (λw1 h=>MQ s i hs w1 h);have HG:=Hq (λw1 h=>QX g s i (jc s i) w1 h hE);open at6 in exact Wn
theorem Dj {w w0:World} {g:Nat} (h:dW g w0 w):dW g w0 (((((((w.setCell ⟨w0.heap.size,0,none⟩ b0).setCell ⟨w0.heap.size,1,none⟩ b1).setCell ⟨w0.heap.size,2,none⟩ b2).setCell ⟨w0.heap.size,3,none⟩ b3).setCell ⟨w0.heap.size,4,none⟩ b4).setCell ⟨w0.heap.size,5,none⟩ b5).setCell ⟨w0.heap.size,6,none⟩ b6):=by
 have hb:=rQ (a:=w) (w:=w) (B:=w0.heap.size) (g:=w0.heap.size) (b0:=b0) (b1:=b1) (b2:=b2) (b3:=b3) (b4:=b4) (b5:=b5) (b6:=b6) (aGs _ _) (aGh _);exact⟨hb.os.trans h.os,hb.tape.trans h.tape,hb.output.trans h.output,aGm h.size hb.size,λk hk hg=>(hb.block k hk).trans (h.block k hk hg)⟩
theorem AY {w:World} {h g:Nat} {o:Option Obj} (hne:g≠h) (e:w.heap[g]?=o):(((((((w.setCell ⟨h,0,none⟩ b0).setCell ⟨h,1,none⟩ b1).setCell ⟨h,2,none⟩ b2).setCell ⟨h,3,none⟩ b3).setCell ⟨h,4,none⟩ b4).setCell ⟨h,5,none⟩ b5).setCell ⟨h,6,none⟩ b6).heap[g]?=o:=
 one_other (one_other (one_other (one_other (one_other (one_other (one_other e hne) hne) hne) hne) hne) hne) hne
theorem PY {g:Nat} {w:World} (h:Handle w) (hk:dW g w w') (_hg:g < w.heap.size) (hne:g≠0):Handle w':=by
 unfold Handle at h ⊢
 have hlt:0 < w.heap.size:=by
  rcases aHa 0 w.heap.size with h'|h'
  .exact h'
  .unfold World.cell? at h;rw [aGU h'] at h;cases h
 rw [<-h];exact aG0 (w:=w) (hk.block _ hlt (Ne.symm hne))
theorem Zg (hs:s.size<=maxLen) (h:jT w g s i) (hH:Handle w) (hE:jc s i < 0):Calls prog 228 #[.pointer (some ⟨g,0,none⟩)] w λe w'=>(∃p,e=Zb p)/\dW g w w':=by
 have HT:=Hq (λw1 h h2=>KP g s i w1 hs h h2 hE);have H:=Hq (aK h (ay w (.cells (bX 0 0 0 0 0 ⟨#[]⟩ 0) 98)));have HH:=Hq (hH.below (ay w (.cells (bX 0 0 0 0 0 ⟨#[]⟩ 0) 98)));clear h hH hE hs;go_in
 go_wp2_with fail;refine(HT _ H HH).mono ?_;rintro e w1 ⟨rfl,hb1⟩;have HB:=Hq (dW.of_below (g:=g) ((ay w _).trans (hb1.mono Aac)));clear hb1;go_wp2_with fail;exact⟨rfl,⟨_,rfl⟩,HB⟩
theorem Zh (hs:s.size<=maxLen) (hg:g < w.heap.size) (h:jT w g s i) (hH:Handle w) (hE:0<=jc s i) (hb:(j6 s i).size=0):Calls prog 228 #[.pointer (some ⟨g,0,none⟩)] w λe w'=>e= .returned (oz (nD (j6 s i)))/\jT w' g s (jc s i)/\dW g w w':=by
 have HT:=Hq (λw1 h h2=>vB g s i w1 hs h h2 hE);have H:=Hq (aK h (ay w (.cells (bX 0 0 0 0 0 ⟨#[]⟩ 0) 98)));have HH:=Hq (hH.below (ay w (.cells (bX 0 0 0 0 0 ⟨#[]⟩ 0) 98)));rw [(J7 hb).1];rw [KY hb] at HT;clear h hH hE hs hb;generalize jc s i=E at *;have hg2:w.heap.size≠g:=Aaa
 go_in
 go_wp2_with fail;refine(HT _ H HH).mono ?_;rintro e w1 ⟨rfl,hr1,hk1⟩;have HR:=Hq (hk1.obj (aGg w _) hg2);have HK:=Hq ((dW.of_below (ay w _)).trans hk1);have HR1:=Hq hr1;clear hr1 hk1;obtain⟨⟨d0,d1,d2,d3,d4,d5,d6⟩,f0,f1,f2,f3,f4,f5,f6⟩:=eT HR;go_wp2_with fail;refine iL (λW' hW'=>?_);obtain⟨⟨r0,r1,r2,r3,r4,r5,r6⟩,_⟩:=eT (show W'.heap[w.heap.size]?=some (.cells (bX 0 0 0 0 0 ⟨#[]⟩ 0) 98 (0,0)) by rw [hW'];exact uf HR);have uO:dW g w W':=by rw [hW'];exact Dj HK
 have hRR:jT W' g s E:=by rw [hW'];exact AY (Ne.symm hg2) HR1
 exact aGn (v:= .agg (bX 0 0 0 0 0 ⟨#[]⟩ 0)) Adn rfl ⟨rfl,hRR,uO⟩
theorem Zf (hs:s.size<=maxLen) (hg:g < w.heap.size) (hge:g≠0) (h:jT w g s i) (hH:Handle w) (hE:0<=jc s i) (hb:0 < (j6 s i).size) (ho:kN (j6 s i)=false):Calls prog 228 #[.pointer (some ⟨g,0,none⟩)] w λe w'=>(∃p,e=Zb p)/\dW g w w':=by
 have HT:=Hq (λw1 h h2=>vB g s i w1 hs h h2 hE);have HGM:=Hq (λw1 h=>FJ (j6 s i) (aGm (tX s i) Aai) w1 h);rw [Er ho] at HGM;have HF:=Hq (λw1 h=>Nq g s (jc s i) w1 h);have H:=Hq (aK h (ay w (.cells (bX 0 0 0 0 0 ⟨#[]⟩ 0) 98)));have HH:=Hq hH;have hne:=kX _ hb;clear h hH hE hs hb ho;generalize jc s i=E at *;generalize j6 s i=B at *;have hg2:w.heap.size≠g:=Aaa
 go_in
 go_wp2_with fail;refine(HT _ H (HH.below (ay w _))).mono ?_;rintro e w1 ⟨rfl,hr1,hk1⟩;open axi in exact ahW
theorem adG (hs:s.size<=maxLen) (hg:g < w.heap.size) (hge:g≠0) (h:jT w g s i) (hH:Handle w) (hE:0<=jc s i) (hb:0 < (j6 s i).size) (ho:kN (j6 s i)=true):Calls prog 228 #[.pointer (some ⟨g,0,none⟩)] w λe w'=>e= .returned (oz (nD (j6 s i)))/\jT w' g s (jc s i)/\dW g w w':=by
 have HT:=Hq (λw1 h h2=>vB g s i w1 hs h h2 hE);have HGM:=Hq (λw1 h=>FJ (j6 s i) (aGm (tX s i) Aai) w1 h);unfold DZ at HGM;rw [ho] at HGM;have H:=Hq (aK h (ay w (.cells (bX 0 0 0 0 0 ⟨#[]⟩ 0) 98)));have HH:=Hq hH;have hne:=kX _ hb;clear h hH hE hs hb ho;generalize jc s i=E at *;generalize nD (j6 s i)=m at *;generalize j6 s i=B at *;obtain⟨mK,mF,mT,mI,mL,mk,mN⟩:=m;have hg2:w.heap.size≠g:=Aaa
 go_in
 go_wp2_with fail;refine(HT _ H (HH.below (ay w _))).mono ?_;rintro e w1 ⟨rfl,hr1,hk1⟩;have HR:=Hq (hk1.obj (aGg w _) hg2);open axh in exact ahW
theorem Gw (w:World):Calls prog 103 #[.string ByteArray.empty] w (dZ w (.tuple #[.agg (bX 0 0 0 0 0 ⟨#[]⟩ 0),.bool false])):=by
 go_in
 go_wp2_with fail;exact aGn (v:= .tuple #[.agg (bX 0 0 0 0 0 ⟨#[]⟩ 0),.bool false]) (by simp[results,results103,go_sem]) rfl ⟨rfl,ay w _⟩
theorem Ee (s:ByteArray) (hs:s.size<=maxLen) (h0:0 < s.size) (w:World):Calls prog 103 #[.string s] w (dZ w (DZ s)):=by
 have HN:=Hq (λw1=>afK s hs w1);have HT:=Hq (λw1=>NK s (gT s 4) hs w1);have HG:=Hq (λw1=>NI s (jc s (gT s 4)) hs w1)
 have hcs:(cand s).k.size<=maxLen:=by
  show(j6 s (gT s 4)).size<=maxLen
  by_cases h:0<=jc s (gT s 4)
  .exact aGm (iE h).2.2.2.1 Aai
  .unfold jc at h;unfold j6;cases hG:textOf s (gT s 4).toNat (iG s (gT s 4)) with
   |none=>simp[ZO]
   |some p=>rw [hG] at h;exact absurd (by simp[R4]) h
 have HP:=Hq (λw1=>GN (cand s) w1 hcs);have HO:=Hq (Fz h0);open arj in exact ayM
theorem Vl (s:ByteArray) (hs:s.size<=maxLen) (w:World):Calls prog 103 #[.string s] w (dZ w (DZ s)):=by
 by_cases h0:s.size=0
 .obtain rfl:=eq_empty s h0;rw [Er (show kN ByteArray.empty=false by unfold kN;simp)];exact Gw w
 .exact Ee s hs Aaa w
def Mh (s:ByteArray):Value:= .tuple #[jY (getOp s),.bool (lH s)]
theorem WJ {s:ByteArray} (h:lH s=false):Mh s= .tuple #[.agg (cu 0 0 ⟨#[]⟩ 0 0 0 0 0 0 ⟨#[]⟩ 0),.bool false]:=by
 unfold Mh getOp;rw [h,aGr Aac];rfl
theorem Jf (w:World):Calls prog 54 #[.string ByteArray.empty] w (dZ w (.tuple #[.agg (cu 0 0 ⟨#[]⟩ 0 0 0 0 0 0 ⟨#[]⟩ 0),.bool false])):=by
 go_in
 go_wp2_with fail;exact aGn (v:= .tuple #[.agg (cu 0 0 ⟨#[]⟩ 0 0 0 0 0 0 ⟨#[]⟩ 0),.bool false]) (by simp[results,results54,go_sem]) rfl ⟨rfl,ay w _⟩
theorem GD (s:ByteArray) (hs:s.size<=maxLen) (h0:0 < s.size) (w:World):Calls prog 54 #[.string s] w (dZ w (Mh s)):=by
 have vZ:=Hq (λw1=>NI s 1 hs w1);have HT1:=Hq (λw1=>NK s (kR s 1) hs w1);have Bq:Hid (∀w1:World,Calls prog 102 #[.string s,.int .i64 (jc s (kR s 1))] w1 (dZ w1 (.tuple #[.int .i64 (vw s (jc s (kR s 1))),.int .i64 (Kz s)]))):=λw1=>NI s (jc s (kR s 1)) hs w1
 have HT2:Hid (∀w1:World,Calls prog 53 #[.string s,.int .i64 (Kz s)] w1 (dZ w1 (.tuple #[.string (Bz s),.int .i64 (Nf s)]))):=λw1=>NK s (Kz s) hs w1
 have hbz:(Bz s).size<=maxLen:=aGm (tX s (Kz s)) Aai;have HG:=Hq (λw1=>Vl (Bz s) hbz w1);unfold DZ at HG;have HP:=Hq (λw1=>ZC (opC s) w1 (aGm (tX s (kR s 1)) Aai) (aGm (adx (Bz s)) Aai));have HO:=Hq (Yl h0);have hC:opC s=⟨s[0].toNat,vw s 1,j6 s (kR s 1),vw s (jc s (kR s 1)),nD (Bz s)⟩:=by unfold opC;rw [Mq h0]
 have HM:=Hq (show lH s=true->Mh s= .tuple #[jY (opC s),.bool true] from λh=>by unfold Mh getOp;rw [h,aGC rfl]);have HZ:=Hq (show lH s=false->Mh s= .tuple #[.agg (cu 0 0 ⟨#[]⟩ 0 0 0 0 0 0 ⟨#[]⟩ 0),.bool false] from WJ);rw [show rG s=(decide ((Bz s).size=0)||kN (Bz s)) from rfl] at HO;rw [hC] at HP HM HO;clear hbz hC;have hne:=kX s h0;have hi0:(0:Int) < (s.size:Int):=Aaa
 generalize Mh s=RES at *;generalize lH s=OK at *;generalize nD (Bz s)=m at *;generalize kN (Bz s)=mo at *;open auJ in exact ahf
theorem Zz (s:ByteArray) (hs:s.size<=maxLen) (w:World):Calls prog 54 #[.string s] w (dZ w (Mh s)):=by
 by_cases h0:s.size=0
 .obtain rfl:=eq_empty s h0;rw [WJ (show lH ByteArray.empty=false by unfold lH;simp)];exact Jf w
 .exact GD s hs Aaa w
def iZ (s:ByteArray):ByteArray:=s.extract 4 (min s.size 1006)
def Ei (s:ByteArray):ByteArray:=j6 (iZ s) 0
def Bf (s:ByteArray):Int:=jc (iZ s) 0
theorem tQ (s:ByteArray):(iZ s).size=min s.size 1006 - 4:=by
 unfold iZ;rw [aH6];omega
theorem afX (n:Nat) (h:n<=1000):(Mth.put n).length<=2:=by
 unfold Mth.put;by_cases h1:n<=127
 .rw [jL _ _ h1];simp
 .rw [nP _ _ h1,jL _ _ Aaa];simp
theorem adE (s:ByteArray):(oF s).size<=1002:=by
 unfold oF;split
 .rename_i h
  unfold rP;have:=afX s.size h;rw [size_of_list,aGp,aW];omega
 .decide
theorem Gn (s:ByteArray) (i:Int):(j6 s i).size<=1000:=by
 exact aiA
theorem Vd (s:ByteArray) (i:Int):jc s i<=s.size:=by
 by_cases h:0<=jc s i
 .exact(iE h).2.2.1
 .omega
theorem afr (pre y:List UInt8) (n:Nat) (h:n<=4000000000):Mth.get (pre++(Mth.put n++y)) pre.length=some (n,(Mth.put n).length):=by
 have:=ab6 5 n 5 0 1 0 y Aaa Aaa Aaa (.inr rfl) Aaa;unfold Mth.get;rw [List.drop_left];simpa [Mth.put] using this
theorem Ve {s:ByteArray} {pre y:List UInt8} (hs:s.data.toList=pre++(Mth.put t.size++(t.data.toList++y))) (h:t.size<=1000) (i:Int) (hi:i=pre.length):j6 s i=t/\jc s i=(pre.length+(oF t).size:Nat):=by
 subst hi;have hg:iG s (pre.length:Int)=some (t.size,(Mth.put t.size).length):=by rw [xq,hs];exact afr pre _ t.size Aaa
 have hl:=congrArg List.length hs;rw [aW] at hl;simp only[aGp,aW] at hl;have hps:(oF t).size=(Mth.put t.size).length+t.size:=by unfold oF;rw [aGC h];unfold rP;rw [size_of_list,aGp,aW]
 have ht:textOf s (pre.length:Int).toNat (iG s (pre.length:Int))=some (t,pre.length+(Mth.put t.size).length+t.size):=by
  rw [hg];unfold textOf;simp only[aHn];rw [aGr Aaa];congr 2
  apply aHE
  apply Array.ext'
  rw [aHK,hs];have e:pre++(Mth.put t.size++(t.data.toList++y))=(pre++Mth.put t.size)++(t.data.toList++y):=Aac
  rw [e,show pre.length+(Mth.put t.size).length=(pre++Mth.put t.size).length by simp,List.drop_left];rw [show(pre++Mth.put t.size).length+t.size - (pre++Mth.put t.size).length=t.data.toList.length by rw [aW];omega,aIg]
 unfold j6 jc;rw [ht];simp only[ZO,R4];exact⟨trivial,Aaa⟩
theorem xG (h:t.size<=1000):(oF t).data.toList=Mth.put t.size++t.data.toList:=by
 unfold oF;rw [aGC h];rfl
end Go.Proofs.YtohmklmkjmlpjaaGreatDoor
