/- Parts. -/
import Derived.Test.YtbolgdleijjgfaaGreatDoorRf9
import Derived.Test.YtbolgdleijjgfaaGreatDoorRf13
namespace Go.Proofs.YtbolgdleijjgfaaGreatDoor
open Go.Proofs.Tryz
set_option maxHeartbeats 4000000
set_option maxRecDepth 100000
open Go.RowKit
open Mth
variable (a:Option Addr) (cap:Nat) (l:List Pu) (key:ByteArray) (n:Int) (E:Nat->Addr) (w:World) {B mb g mp:Nat} {v:Value} {ks:List ByteArray} {G:ByteArray->Pu} {w':World} {xs:List Value}
theorem mV:∀(vs:List Value) {w:World} {g o:Nat} {xs:List Value} {t:TypeId},w.heap[g]?=some (.cells xs.toArray t (0,0))->(w.setCells g o vs).heap[g]?=some (.cells (GR.setRun xs o vs).toArray t (0,0)):=by
 intro vs;induction vs with
 |nil=>intro w g o xs t h;exact h
 |cons v vs ih=>
  intro w g o xs t h;refine ih (xs:=xs.set o v) ?_;have:=Fo.blk_set h o v;simpa using this
theorem qY {g g':Nat} (hne:g'≠g):∀(vs:List Value) (w:World) (o:Nat),(w.setCells g o vs).heap[g']?=w.heap[g']?:=by
 intro vs;induction vs with
 |nil=>intro w o;rfl
 |cons v vs ih=>intro w o;exact(ih (w.setCell ⟨g,o,none⟩ v) (o+1)).trans (aFe _ _ _ _ hne)
theorem setCells_size {g:Nat}:∀(vs:List Value) (w:World) (o:Nat),(w.setCells g o vs).heap.size=w.heap.size:=by
 intro vs;induction vs with
 |nil=>intro w o;rfl
 |cons v vs ih=>intro w o;exact(ih (w.setCell ⟨g,o,none⟩ v) (o+1)).trans (Fo.setCell_size w _ v)
theorem gQ {g:Nat}:∀(vs:List Value) (w:World) (o:Nat),(w.setCells g o vs).os=w.os/\(w.setCells g o vs).tape=w.tape/\(w.setCells g o vs).output=w.output:=by
 intro vs;induction vs with
 |nil=>intro w o;exact⟨rfl,rfl,rfl⟩
 |cons v vs ih=>intro w o;exact ih (w.setCell ⟨g,o,none⟩ v) (o+1)
theorem qX (w:World) (g o:Nat) (vs:List Value):w.grownBy (w.setCells g o vs) (some g):=
 ⟨(gQ vs w o).1,(gQ vs w o).2.1,(gQ vs w o).2.2,by rw [setCells_size];exact aER _,λk _ hne=>qY (λe=>hne Aap) vs w o⟩
theorem qZ (a m b vs:List Value) (h:vs.length=m.length):GR.setRun (a++(m++b)) a.length vs=a++(vs++b):=by
 have:=GR.setRun_append_right a vs 0 (m++b);rw [aGB] at this;rw [this,GR.setRun_head vs m b h]
def yu (ks:List ByteArray) (i:Nat) (key:ByteArray):List Value:=(ks.map Value.string).take i++(.string key::(ks.map Value.string).drop i)
theorem oF (ks:List ByteArray) (i:Nat) (key:ByteArray) (hi:i<=ks.length):(yu ks i key).length=ks.length+1:=by
 unfold yu;simp;omega
theorem Bj (ks:List ByteArray):∀v∈ks.map Value.string,v.oneCell'=true:=by
 intro v hv;obtain⟨k,_,rfl⟩:=aGq.1 hv;rfl
theorem ayf (B:Nat) (v:Value) (l:List Pu) (key:ByteArray) (w:World) (hp:l.Pairwise Oj) (hl:l.length<=20) (h:w.ownsRow B 9 1 v l.length ((l.map (·.k)).map Value.string)):
 Calls prog 311 #[v,.string key] w λe w'=>e= .returned (.tuple #[.int .i64 (place l key:Nat),.bool (found l key)])/\∃q,w'=w.drewN q:=by
 by_cases h0:l.length=0
 .have hl0:l=[]:=aFk h0;subst hl0
  have hv:∃a c,v= .slice a 0 c:=by
   rcases h.2 with⟨rfl,_⟩|⟨g,cap,cur,rfl,_⟩
   .exact⟨none,0,rfl⟩
   .exact⟨_,_,rfl⟩
  obtain⟨a,c,rfl⟩:=hv;exact(Any2.slices_BinarySearch_string_empty Gc a c key w).mono λe w' ⟨he,hw⟩=>⟨by rw [he];rfl,0,hw⟩
 .obtain⟨g,cap,rfl,_,_⟩:=h.form Aaa
  have hb:=Any2.slices_BinarySearch_string Gc g 0 l.length cap (AP l key) key w Aaa (λj hj=>by
   have hc:=h.cellAt j Aaa
   rw [aFE,hc]
   unfold AP
   simp[hj])
  rw [abp hp key,Pg l key] at hb;exact hb
theorem MH {w:World} {cap:Nat} {i:Nat} {key:ByteArray} {bs:List Value} (hi:i<=ks.length) (hg:B<=g) (hcap:ks.length+1<=cap) (hcm:cap<=maxLen) (hlen:(yu ks i key++bs).length=cap) (h:w.heap[g]?=some (.cells (yu ks i key++bs).toArray 9 (0,0))):w.ownsRow B 9 1 (.slice (some ⟨g,0,none⟩) (ks.length+1) cap) (ks.length+1) (yu ks i key):=by
 have hl:=oF ks i key hi;refine⟨Aaa,.inr ⟨g,cap,_,rfl,hg,h,hcap,hcm,by rw [aFM];omega,?_⟩⟩;rw [List.toList_toArray,Nat.mul_one,<-hl,List.take_left'];rfl
theorem vP (n:Nat):(Builtin.zeroCells (Value.string ⟨#[]⟩).cells n).toList.length=n:=by
 rw [aFB,size_zeroCells];simp[Value.cells]
theorem Cn (w:World) (o:Obj) (row:Option Nat):w.grownBy (w.drew.alloc o) row:=
 ⟨rfl,rfl,rfl,Aac,λk hk _=>aE4 w.drew _ _ hk⟩
theorem Qk (ks:List ByteArray) (key:ByteArray):yu ks ks.length key=ks.map Value.string++[.string key]:=by
 unfold yu;rw [aGn Aac,List.drop_of_length_le Aac]
theorem F6 (B:Nat) (base:Option Addr) (c:Nat) (ks:List ByteArray) (key:ByteArray) (vb:Nat) (w:World) (hn:ks.length<=20) (hB:B<=w.heap.size) (hnc:ks.length<=c) (hroom:c < ks.length+1) (hnil:base=none->ks.length=0) (hcs:∀a,base=some a->∀(j:Nat) (v:Value),(ks.map Value.string)[j]?=some v->w.cell? (a.add j)=some v) (hvs:∀(j:Nat) (u:Value),[Value.string key][j]?=some u->w.cell? ⟨vb,0+j,none⟩=some u) (h1v:∀u∈[Value.string key],u.oneCell'=true) (row:Option Nat):
 Calls prog 312 #[.slice base ks.length c,.int .i64 (ks.length:Nat),.slice (some ⟨vb,0,none⟩) 1 1] w λe w'=>∃v',e= .returned v'/\w'.ownsRow B 9 1 v' (ks.length+1) (yu ks ks.length key)/\w.grownBy w' row:=by
 refine(Any2.slices_Insert_string_end_grow uW base ks.length c vb 0 1 1 (ks.map Value.string) [.string key] w Aaa hnc hroom Aaa Aac rfl hnil hcs hvs h1v).mono λe w' ⟨he,hw⟩=>?_
 have hge:=grownCap_ge w (ks.length+1) c (vT.t 9);have hle:=grownCap_le_maxLen w (ks.length+1) c (vT.t 9) Aaj;refine⟨_,he,?_,by rw [hw];exact Cn w _ row⟩;generalize grownCap w (ks.length+1) c (vT.t 9)=cap at *;refine MH (w:=w') (bs:=(Builtin.zeroCells (Value.string ⟨#[]⟩).cells (cap - (ks.length+1))).toList) (aER _) hB hge hle ?_ ?_
 .rw [aEW,vP,oF _ _ _ (aER _)];omega
 .rw [hw];have:=aEP w.drew (.cells ((ks.map Value.string++[Value.string key]).toArray++Builtin.zeroCells (Value.string ⟨#[]⟩).cells (cap - (ks.length+1))) (vT.t 9));refine Eq.trans this ?_;rw [Qk]
  have e:(ks.map Value.string++[Value.string key]).toArray++Builtin.zeroCells (Value.string ⟨#[]⟩).cells (cap - (ks.length+1))=(ks.map Value.string++[Value.string key]++(Builtin.zeroCells (Value.string ⟨#[]⟩).cells (cap - (ks.length+1))).toList).toArray:=by
   apply Array.toList_inj.1
   simp
  rw [e];rfl
theorem ak4 (B:Nat) (v:Value) (ks:List ByteArray) (i:Nat) (key:ByteArray) (vb:Nat) (w:World) (hi:i<=ks.length) (hn:ks.length<=20) (hB:B<=w.heap.size) (h:w.ownsRow B 9 1 v ks.length (ks.map Value.string)) (hv:w.heap[vb]?=some (.cells #[.string key] 9 (0,0))) (hvb:v.ownBlock≠some vb):
 Calls prog 312 #[v,.int .i64 (i:Nat),.slice (some ⟨vb,0,none⟩) 1 1] w λe w'=>∃v',e= .returned v'/\w'.ownsRow B 9 1 v' (ks.length+1) (yu ks i key)/\w.grownBy w' v.ownBlock:=by
 have hvs:∀(j:Nat) (u:Value),[Value.string key][j]?=some u->w.cell? ⟨vb,0+j,none⟩=some u:=λj u hu=>by
  rw [aE1 w vb _ _ 9 (0,0) hv,aFE]
  simpa using hu
 have h1v:∀u∈[Value.string key],u.oneCell'=true:=λu hu=>by rw [aE6.1 hu];rfl
 have hfree:∀j,w.frozen? ⟨vb,j,none⟩=false:=λj=>by unfold World.frozen?;rw [hv];simp
 have hsa:w.shape? vb=some (9,1):=by unfold World.shape?;rw [hv];rfl
 rcases h.2 with⟨rfl,h0⟩|⟨g,cap,cur,rfl,hg,hblk,hnc,hcm,hcs,htk⟩
 .have hi0:i=ks.length:=Aaa
  subst hi0;have:=F6 B none 0 ks key vb w hn hB Aaa Aaa (λ_=>h0) (λa ha=>by cases ha) hvs h1v none;rw [h0] at this ⊢;exact this
 have aCS:vb≠g:=λe=>hvb (by rw [e];rfl)
 obtain⟨sp,hcur⟩:∃sp,cur.toList=ks.map Value.string++sp:=⟨cur.toList.drop ks.length,by
  rw [Nat.mul_one] at htk
  rw [<-htk,aFJ]⟩
 have hblk2:w.heap[g]?=some (.cells (ks.map Value.string++sp).toArray 9 (0,0)):=by rw [hblk,<-hcur]
 have ab7:ks.length+sp.length=cap:=by
  have:=congrArg List.length hcur;rw [aFB,hcs] at this;simp at this;omega
 have hcell:∀j,w.cell? ⟨g,j,none⟩=(ks.map Value.string++sp)[j]?:=λj=>by
  rw [aE1 w g j _ 9 (0,0) hblk2]
  simp
 have hfz:∀j,w.frozen? ⟨g,j,none⟩=false:=λj=>by unfold World.frozen?;rw [hblk2];simp
 have akF:∀(j:Nat) (u:Value),(ks.map Value.string)[j]?=some u->w.cell? ⟨g,0+j,none⟩=some u:=λj u hu=>by
  rw [aFE,hcell,aGd (aFK.1 hu).1]
  exact hu
 rcases aF2 i ks.length with hlt|hge
 .obtain⟨ra,hra⟩:∃ra,ra=(ks.map Value.string).take i:=⟨_,rfl⟩;obtain⟨rb,hrb⟩:∃rb,rb=(ks.map Value.string).drop i:=⟨_,rfl⟩;have hsplit:ks.map Value.string=ra++rb:=by rw [hra,hrb,aFJ]
  have ayS:ra.length=i:=by rw [hra];simp;omega
  have aEc:rb.length=ks.length - i:=by rw [hrb];simp
  have hins:yu ks i key=ra++(.string key::rb):=by unfold yu;rw [<-hra,<-hrb]
  by_cases hroom:ks.length+1<=cap
  .have hsb:w.shape? g=some (9,cap):=by unfold World.shape?;rw [hblk2];simp;omega
   refine(Any2.slices_Insert_string_shift uW g 0 ks.length cap i vb 0 1 1 (ks.map Value.string) [.string key] w hlt Aaa hroom Aca aCS Aac rfl akF
    (λj hj=>by rw [aFE,hcell];simp;omega) (λj _=>hfz _) hvs (Bj ks) h1v 9 9 1 cap hsa hsb Aaa (hfree _) (hfree _)).mono λe w' ⟨he,hw⟩=>?_
   obtain⟨s0,sp',hsp⟩:∃s0 sp',sp=s0::sp':=by
    exact aiX
   obtain⟨x0,A,hxA,hAl⟩:∃x0 A,rb++[s0]=x0::A/\A.length=rb.length:=by
    cases hb:rb++[s0] with
    |nil=>simp at hb
    |cons x0 A=>
     refine⟨x0,A,rfl,?_⟩;have:=congrArg List.length hb;simp at this;omega
   have hxs:ks.map Value.string++sp=(ra++[x0])++(A++sp'):=by
    rw [hsplit,hsp];have:ra++rb++s0::sp'=ra++((rb++[s0])++sp'):=Aac
    rw [this,hxA];simp
   have e1:GR.setRun (ks.map Value.string++sp) (0+(i+1)) rb=(ra++[x0])++(rb++sp'):=by
    rw [hxs];have:=qZ (ra++[x0]) A sp' rb hAl.symm;rw [show(ra++[x0]).length=0+(i+1) by simp;omega] at this;exact this
   have e2:GR.setRun ((ra++[x0])++(rb++sp')) (0+i) [.string key]=yu ks i key++sp':=by
    have:=qZ ra [x0] (rb++sp') [.string key] rfl;rw [ayS] at this;rw [aFE,hins];have e:(ra++[x0])++(rb++sp')=ra++([x0]++(rb++sp')):=Aac
    rw [e,this];simp
   refine⟨_,he,MH (bs:=sp') hi hg hroom hcm ?_ ?_,?_⟩
   .rw [aEW,oF ks i key hi];rw [hsp] at ab7;simp at ab7;omega
   .rw [hw,<-hrb];have h1:=mV rb (w:=w.drew) (o:=0+(i+1)) hblk2;rw [e1] at h1;have h2:=mV [.string key] (o:=0+i) h1;rw [e2] at h2;exact h2
   .rw [hw];have h1:=qX w.drew g (0+(i+1)) ((ks.map Value.string).drop i);have h2:=qX (w.drew.setCells g (0+(i+1)) ((ks.map Value.string).drop i)) g (0+i) [.string key];exact⟨h2.os.trans h1.os,h2.tape.trans h1.tape,h2.output.trans h1.output,aEU h1.size h2.size,λk hk hne=>(h2.block k (aEZ hk h1.size) hne).trans (h1.block k hk hne)⟩
  .have aDx:cap=ks.length:=Aaa
   refine(Any2.slices_Insert_string_grow uW g 0 ks.length cap i vb 0 1 1 (ks.map Value.string) [.string key] w hlt Aaa hnc Aaa Aaa Aac rfl akF hvs (Bj ks) h1v).mono λe w' ⟨he,hw⟩=>?_
   have hge:=grownCap_ge w (ks.length+1) cap (vT.t 9);have hle:=grownCap_le_maxLen w (ks.length+1) cap (vT.t 9) Aaj;generalize grownCap w (ks.length+1) cap (vT.t 9)=cap' at *;obtain⟨z1,hz1⟩:∃z1,z1=(Builtin.zeroCells (Value.string ⟨#[]⟩).cells (ks.length+1 - i)).toList:=⟨_,rfl⟩;obtain⟨z2,hz2⟩:∃z2,z2=(Builtin.zeroCells (Value.string ⟨#[]⟩).cells (cap' - (ks.length+1))).toList:=⟨_,rfl⟩;have afd:z1.length=ks.length+1 - i:=by rw [hz1,vP]
   have Ec:z2.length=cap' - (ks.length+1):=by rw [hz2,vP]
   obtain⟨x0,A,hxA⟩:∃x0 A,z1=x0::A:=by
    cases z1 with
    |nil=>simp at afd;omega
    |cons x0 A=>exact⟨x0,A,rfl⟩
   have hAl:A.length=rb.length:=by rw [hxA] at afd;simp at afd;omega
   have hall:(w.alloc (.cells (((ks.map Value.string).take i).toArray++Builtin.zeroCells (Value.string ⟨#[]⟩).cells (ks.length+1 - i)++Builtin.zeroCells (Value.string ⟨#[]⟩).cells (cap' - (ks.length+1))) (vT.t 9))).heap[w.heap.size]?=some (.cells (ra++([x0]++(A++z2))).toArray 9 (0,0)):=by
    refine Eq.trans (aEP w _) ?_
    have e:((ks.map Value.string).take i).toArray++Builtin.zeroCells (Value.string ⟨#[]⟩).cells (ks.length+1 - i)++Builtin.zeroCells (Value.string ⟨#[]⟩).cells (cap' - (ks.length+1))=(ra++([x0]++(A++z2))).toArray:=by
     apply Array.toList_inj.1
     rw [aGD,aGD,<-hz1,<-hz2,hxA,hra];simp
    rw [e];rfl
   have e1:GR.setRun (ra++([x0]++(A++z2))) i [.string key]=(ra++[.string key])++(A++z2):=by
    have:=qZ ra [x0] (A++z2) [.string key] rfl;rw [ayS] at this;rw [this];simp
   have e2:GR.setRun ((ra++[.string key])++(A++z2)) (i+1) rb=yu ks i key++z2:=by
    have:=qZ (ra++[.string key]) A z2 rb hAl.symm;rw [show(ra++[Value.string key]).length=i+1 by simp;omega] at this;rw [this,hins];simp
   refine⟨_,he,MH (bs:=z2) hi hB hge hle ?_ ?_,?_⟩
   .rw [aEW,oF ks i key hi];omega
   .rw [hw,<-hrb];have h1:=mV [.string key] (w:=(w.alloc (.cells (((ks.map Value.string).take i).toArray++Builtin.zeroCells (Value.string ⟨#[]⟩).cells (ks.length+1 - i)++Builtin.zeroCells (Value.string ⟨#[]⟩).cells (cap' - (ks.length+1))) (vT.t 9))).drew) (o:=i) hall;rw [e1] at h1;have h2:=mV rb (w:=((w.alloc (.cells (((ks.map Value.string).take i).toArray++Builtin.zeroCells (Value.string ⟨#[]⟩).cells (ks.length+1 - i)++Builtin.zeroCells (Value.string ⟨#[]⟩).cells (cap' - (ks.length+1))) (vT.t 9))).drew.setCells w.heap.size i [.string key]).drew) (o:=i+1) h1;rw [e2] at h2;exact h2
   .rw [hw];refine⟨?_,?_,?_,?_,?_⟩
    .rw [(gQ _ _ _).1];exact(gQ _ _ _).1
    .rw [(gQ _ _ _).2.1];exact(gQ _ _ _).2.1
    .rw [(gQ _ _ _).2.2];exact(gQ _ _ _).2.2
    .rw [setCells_size];refine aEU ?_ (Nat.le_of_eq (setCells_size _ _ _).symm);show w.heap.size<=(w.alloc _).heap.size
     simp
    .intro k hk _;rw [qY Aaa];refine(qY (g:=w.heap.size) (g':=k) Aaa _ _ _).trans ?_;exact aE4 w _ _ hk
 .have hie:i=ks.length:=Aaa
  subst hie;by_cases hroom:ks.length+1<=cap
  .refine(Any2.slices_Insert_string_end_room uW g 0 ks.length cap vb 0 1 1 [.string key] w Aaa hroom Aca rfl
    (λj hj=>by rw [aFE,hcell];simp;omega) (λj _=>hfz _) hvs h1v).mono λe w' ⟨he,hw⟩=>?_
   obtain⟨s0,sp',hsp⟩:∃s0 sp',sp=s0::sp':=by
    exact aiX
   have e1:GR.setRun (ks.map Value.string++sp) (0+ks.length) [.string key]=yu ks ks.length key++sp':=by
    have:=qZ (ks.map Value.string) [s0] sp' [.string key] rfl;rw [aFQ] at this;rw [aFE,hsp,Qk];have e:ks.map Value.string++s0::sp'=ks.map Value.string++([s0]++sp'):=Aac
    rw [e,this];simp
   refine⟨_,he,MH (bs:=sp') (aER _) hg hroom hcm ?_ ?_,by rw [hw];exact qX w g (0+ks.length) [.string key]⟩
   .rw [aEW,oF ks _ key (aER _)];rw [hsp] at ab7;simp at ab7;omega
   .rw [hw];have h1:=mV [.string key] (w:=w) (o:=0+ks.length) hblk2;rw [e1] at h1;exact h1
  .exact F6 B (some ⟨g,0,none⟩) cap ks key vb w hn hB hnc Aaa (λha=>by cases ha) (λa ha j u hu=>by
    injection ha with ha
    subst ha
    have e:(⟨g,0,none⟩:Addr).add j=⟨g,0+j,none⟩:=by unfold Addr.add;split<;>simp_all
    rw [e]
    exact akF j u hu) hvs h1v (some g)
open Go.RowKit Go.Maps
structure PM (w:World) (B mp mb n:Nat) (v:Value) (ks:List ByteArray) (G:ByteArray->Pu):Prop where
 blk:w.heap[mp]?=some (.cells #[v,.map (some mb)] 356 (0,0))
 row:w.ownsRow B 9 1 v ks.length (ks.map Value.string)
 map:iL w mb n G
 lop:B<=mp
 lom:B<=mb
theorem own_ne {w:World} {n:Nat} {t:TypeId} {cs:Array Value} {fr:Nat×Nat} (h:w.ownsRow B 9 1 v n xs) (hg:w.heap[g]?=some (.cells cs t fr)) (ht:t≠9):v.ownBlock≠some g:=by
 rcases h.2 with⟨rfl,_⟩|⟨g',cap,cur,rfl,_,hb,_⟩
 .intro e;cases e
 .intro e;injection e with e
  have e':g'=g:=e;subst e';rw [hg] at hb;injection hb with hb
  injection hb with h1 h2 h3
  exact ht h2
theorem zn {w:World} {n:Nat} {es:Array MapEntry} {clock:Nat} (h:w.ownsRow B 9 1 v n xs) (hg:w.heap[g]?=some (.map es clock)):v.ownBlock≠some g:=by
 rcases h.2 with⟨rfl,_⟩|⟨g',cap,cur,rfl,_,hb,_⟩
 .intro e;cases e
 .intro e;injection e with e
  have e':g'=g:=e;subst e';rw [hg] at hb;cases hb
theorem iL.blk {w:World} {n:Nat} (h:iL w mb n G):∃es clock,w.heap[mb]?=some (.map es clock):=by
 obtain⟨D,⟨es,clock,h1,_⟩,_⟩:=h;exact⟨es,clock,h1⟩
theorem PM.mpmb {w:World} {n:Nat} (h:PM w B mp mb n v ks G):mp≠mb:=by
 obtain⟨es,clock,hb⟩:=h.map.blk;intro e;have:=h.blk;rw [e,hb] at this;cases this
theorem PM.below {w:World} {n:Nat} (h:PM w B mp mb n v ks G) (hb:aH w w'):PM w' B mp mb n v ks G:=by
 have hg:w.grownBy w' none:=⟨hb.os,hb.tape,hb.output,hb.size,λk hk _=>hb.block k hk⟩;refine⟨?_,?_,?_,h.lop,h.lom⟩
 .rw [hb.block _ (Fo.lt_of_blk h.blk)];exact h.blk
 .refine h.row.kept hg ?_;exact aiY
 .exact h.map.kept (hb.block _ h.map.lt)
theorem PM.drewN {w:World} {n q:Nat} (h:PM w B mp mb n v ks G):PM (w.drewN q) B mp mb n v ks G:=⟨h.blk,h.row,h.map,h.lop,h.lom⟩
theorem PM.turned {w:World} {n n':Nat} {G':ByteArray->Pu} (h:PM w B mp mb n v ks G) (hk:Keeps mb w w') (hm:iL w' mb n' G'):PM w' B mp mb n' v ks G':=by
 have hg:w.grownBy w' (some mb):=⟨hk.os,hk.tape,hk.output,hk.size,λk hl hne=>hk.block k hl (λe=>hne Aap)⟩;obtain⟨es,clock,hb⟩:=h.map.blk;refine⟨?_,?_,hm,h.lop,h.lom⟩
 .rw [hk.block _ (Fo.lt_of_blk h.blk) h.mpmb];exact h.blk
 .refine h.row.kept hg (.inr (zn h.row hb))
theorem Dr {w:World} (hk:Keeps g w w') (hg:B<=g) (hB:B<=w.heap.size):Below B w w':=⟨hk.os,hk.tape,hk.output,hk.size,λk hl=>hk.block k Aaa Aaa⟩
abbrev shv (dm df ds:Int):Value:= .agg #[.int .i64 dm,.int .i64 df,.int .i64 ds]
theorem BF {w w1:World} {A B C:Obj} (hb:Below (((w.alloc A).alloc B).alloc C).heap.size (((w.alloc A).alloc B).alloc C) w1):
 w1.heap[w.heap.size]?=some A/\w1.heap[w.heap.size+1+1]?=some C/\aH w w1:=by
 have hs:(((w.alloc A).alloc B).alloc C).heap.size=w.heap.size+1+1+1:=Aac
 refine⟨?_,?_,((((aE3 _ _).alloc (aER _) _).alloc Aac _).alloc Aah _).trans (hb.mono Aaa)⟩
 .rw [hb.block _ Aaa,aE4 _ _ _ Aah,aE4 _ _ _ Aac];exact aEP w A
 .rw [hb.block _ Aaa];have h:=aEP ((w.alloc A).alloc B) C;rwa [show((w.alloc A).alloc B).heap.size=w.heap.size+1+1 by simp] at h
theorem ME (p:Pu) (dm df ds n:Int) (w:World) (hp:iG p=true) (h1:-1000000000<=dm*n/\dm*n<=1000000000) (h2:-1000000000<=df*n/\df*n<=1000000000) (h3:-1000000000<=ds*n/\ds*n<=1000000000) (hf:0<=p.f+df*n) (hs:0<=p.s+ds*n) (hok:iG (fq p dm df ds n)=true):
 Calls prog 305 #[yx p,shv dm df ds,.int .i64 n] w (dU w (.tuple #[yx (fq p dm df ds n),.nilIface])):=by
 have HO:=Hq (λw1=>qE (fq p dm df ds n) true w1 hok);open anM in exact ajR
theorem Cv (p:Pu) (dm df ds n:Int) (E:Nat->Addr) (w:World) (hp:iG p=true) (h1:-1000000000<=dm*n/\dm*n<=1000000000) (h2:-1000000000<=df*n/\df*n<=1000000000) (h3:-1000000000<=ds*n/\ds*n<=1000000000) (hf:0<=p.f+df*n) (hs:0<=p.s+ds*n) (hok:iG (fq p dm df ds n)=false) (he:iy w E):
 Calls prog 305 #[yx p,shv dm df ds,.int .i64 n] w (dU w (.tuple #[yx ⟨⟨#[]⟩,0,0,0⟩,uN (E 5)])):=by
 have HO:=Hq (λw1=>qE (fq p dm df ds n) false w1 hok);have HE:=Hq he;open anL in exact ajR
theorem Eh (p:Pu) (dm df ds n:Int) (E:Nat->Addr) (w:World) (hp:iG p=true) (h1:-1000000000<=dm*n/\dm*n<=1000000000) (h2:-1000000000<=df*n/\df*n<=1000000000) (h3:-1000000000<=ds*n/\ds*n<=1000000000) (hf:p.f+df*n < 0\/0<=p.f+df*n/\p.s+ds*n < 0) (he:iy w E):
 Calls prog 305 #[yx p,shv dm df ds,.int .i64 n] w (dU w (.tuple #[yx ⟨⟨#[]⟩,0,0,0⟩,uN (E 4)])):=by
 have HE:=Hq he;have hve:4 < w.heap.size:=aFT _ _ (he.var 4 Aaa);open anK in exact ajR
def Qh (l:List Pu) (key:ByteArray):List ByteArray:=(l.map (·.k)).take (place l key)++key::(l.map (·.k)).drop (place l key)
theorem acv (l:List Pu) (key:ByteArray):yu (l.map (·.k)) (place l key) key=(Qh l key).map Value.string:=by
 unfold yu Qh;simp
theorem Dp (l:List Pu) (key:ByteArray):(Qh l key).length=l.length+1:=by
 unfold Qh;have:=mP l key;simp;omega
theorem Ng {l:List Pu} {p:Pu} (h:found l p.k=false):(jf l p).map (·.k)=Qh l p.k:=by
 rw [yL h];unfold Qh;simp
theorem Ug (B mp mb n:Nat) (v:Value) (l:List Pu) (G:ByteArray->Pu) (key:ByteArray) (E:Nat->Addr) (w:World) (hp:l.Pairwise Oj) (hl:l.length<=20) (hB:B<=w.heap.size) (h:PM w B mp mb n v (l.map (·.k)) G) (he:iy w E):
 Calls prog 306 #[.pointer (some ⟨mp,0,none⟩),.string key] w λe w'=>Below B w w'/\(∀k,k < w.heap.size->k≠mp->v.ownBlock≠some k->w'.heap[k]?=w.heap[k]?)/\
  ((found l key=true/\e= .returned .nilIface/\PM w' B mp mb n v (l.map (·.k)) G)\/
   (found l key=false/\l.length=20/\e= .returned (uN (E 5)))\/
   (found l key=false/\l.length < 20/\e= .returned .nilIface/\∃v',PM w' B mp mb n v' (Qh l key) G)):=by
 have hrow:=h.row;rw [aFQ] at hrow
 obtain⟨a,cap,rfl⟩:∃a cap,v= .slice a l.length cap:=by
  exact aiF
 have HBS:=Hq (ayf B _ l key w hp hl hrow);have hmp:=Fo.lt_of_blk h.blk;have hmb:=h.map.lt;obtain⟨⟨m0,m1⟩,f0,f1⟩:=mW h.blk;have ve:=he.var 5 Aaa;have HH:=Hq h;have HR:=Hq hrow;clear h hrow he;cases hf:found l key
 .by_cases h20:l.length=20
  .have ayN:((l.length:Int) == 20)=true:=Aah
   have H20:=Hq h20;clear h20;open atN in exact aaI
  .have ayN:((l.length:Int) == 20)=false:=Aah
   open atM in exact aaI
 .open atL in exact aaI
theorem Je (p:Pu) (dm df ds n:Int) (E:Nat->Addr) (w:World) (hp:iG p=true) (h1:-1000000000<=dm*n/\dm*n<=1000000000) (h2:-1000000000<=df*n/\df*n<=1000000000) (h3:-1000000000<=ds*n/\ds*n<=1000000000) (hok:iG (fq p dm df ds n)=false) (he:iy w E):
 Calls prog 305 #[yx p,shv dm df ds,.int .i64 n] w λe w'=>∃i,(1<=i/\i < 6)/\e= .returned (.tuple #[yx ⟨⟨#[]⟩,0,0,0⟩,uN (E i)])/\aH w w':=by
 by_cases hf:p.f+df*n < 0\/0<=p.f+df*n/\p.s+ds*n < 0
 .exact(Eh p dm df ds n E w hp h1 h2 h3 hf he).mono λe w' ⟨h,hb⟩=>⟨_,Aaa,h,hb⟩
 .exact(Cv p dm df ds n E w hp h1 h2 h3 Aaa Aaa hok he).mono λe w' ⟨h,hb⟩=>⟨_,Aaa,h,hb⟩
theorem Mw (B mp mb n0:Nat) (v:Value) (l:List Pu) (key:ByteArray) (dm df ds n:Int) (E:Nat->Addr) (w:World) (hkey:key.size<=1048576) (hp:iG (aD l key)=true) (h1:-1000000000<=dm*n/\dm*n<=1000000000) (h2:-1000000000<=df*n/\df*n<=1000000000) (h3:-1000000000<=ds*n/\ds*n<=1000000000) (h:PM w B mp mb n0 v (l.map (·.k)) (aD l)) (he:iy w E) (hok:iG (fq (aD l key) dm df ds n)=false):
 Calls prog 293 #[.pointer (some ⟨mp,0,none⟩),.string key,.int .i64 n,shv dm df ds] w λe w'=>∃i,(1<=i/\i < 6)/\e= .returned (uN (E i))/\aH w w':=by
 have Ow:=Hq (λw1 (hb:aH w w1)=>Mt mp mb n0 v (aD l) key w1 hkey (h.below hb).blk (h.below hb).map);have HSH:=Hq (λw1 (hb:aH w w1)=>Je (aD l key) dm df ds n E w1 hp h1 h2 h3 hok (he.below hb));clear h he hok hp h1 h2 h3;generalize aD l key=p at *;obtain⟨pk,pm,pf,ps⟩:=p;open aoQ in exact awS
theorem P7 (B mp mb n0:Nat) (v:Value) (l:List Pu) (key:ByteArray) (dm df ds n:Int) (E:Nat->Addr) (w:World) (hB:B<=w.heap.size) (hkey:key.size<=1048576) (hn0:n0 < maxLen) (hl:l.length<=20) (hpw:l.Pairwise Oj) (hp:iG (aD l key)=true) (h1:-1000000000<=dm*n/\dm*n<=1000000000) (h2:-1000000000<=df*n/\df*n<=1000000000) (h3:-1000000000<=ds*n/\ds*n<=1000000000) (h:PM w B mp mb n0 v (l.map (·.k)) (aD l)) (he:iy w E) (hok:iG (fq (aD l key) dm df ds n)=true):
 Calls prog 293 #[.pointer (some ⟨mp,0,none⟩),.string key,.int .i64 n,shv dm df ds] w λe w'=>Below B w w'/\
  ((found l key=false/\l.length=20/\e= .returned (uN (E 5)))\/
   ((found l key=true\/l.length < 20)/\e= .returned .nilIface/\∃v',PM w' B mp mb (n0+1) v' ((jf l (fq (aD l key) dm df ds n)).map (·.k)) (upd (aD l) (fq (aD l key) dm df ds n)))):=by
 have hpos:iG (fq (aD l key) dm df ds n)=true:=hok
 have hff:0<=(aD l key).f+df*n/\0<=(aD l key).s+ds*n:=by
  unfold iG at hpos;simp only[aEX] at hpos;have b2:0<=(aD l key).f+df*n/\(aD l key).f+df*n<=1000000000:=aFa hpos.1.1.2;have b3:0<=(aD l key).s+ds*n/\(aD l key).s+ds*n<=1000000000:=aFa hpos.1.2;exact⟨b2.1,b3.1⟩
 have Ow:=Hq (λw1 (hb:aH w w1)=>Mt mp mb n0 v (aD l) key w1 hkey (h.below hb).blk (h.below hb).map);have HSH:=Hq (λw1 (hb:aH w w1)=>ME (aD l key) dm df ds n w1 hp h1 h2 h3 hff.1 hff.2 hok);have adX:=Hq (λw1 (hb:aH w w1)=>Ug B mp mb n0 v l (aD l) key E w1 hpw hl (aEU hB hb.size) (h.below hb) (he.below hb));have HPM:=Hq (λw1 (hb:aH w w1)=>h.below hb);have hpk:(fq (aD l key) dm df ds n).k=key:=qG l key;have xZ:=Hq (λhf=>(wX (l:=l) (p:=fq (aD l key) dm df ds n) hf).symm);have HKN:=Hq (λhf=>(Ng (l:=l) (p:=fq (aD l key) dm df ds n) hf).symm);rw [hpk] at xZ HKN;have hkk:(aD l key).k=key:=qG l key;clear h he hok hp h1 h2 h3 hpos hff hpw;unfold fq at *;generalize jf l ⟨(aD l key).k,(aD l key).m+dm*n,(aD l key).f+df*n,(aD l key).s+ds*n⟩=PL at *;generalize hG:aD l=G at *;generalize G key=p at *;obtain⟨pk,pm,pf,ps⟩:=p;dsimp only at *;subst hkk;generalize pm+dm*n=qm at *;generalize pf+df*n=qf at *;generalize ps+ds*n=qs at *;clear hG hpk;open aoP in exact awS
namespace Mth
theorem adN {l:List Pu} (hp:l.Pairwise Oj) (k:Nat) (hk:k < l.length):upd (aD (l.take k)) l[k]=aD (l.take (k+1)):=by
 funext key
 have hsub:(l.take (k+1)).Pairwise Oj:=hp.sublist (List.take_sublist _ _);unfold upd;by_cases e:key=l[k].k
 .rw [aFc e,e];exact(rX hsub (List.mem_take_iff_getElem.2 ⟨k,Aaa,rfl⟩)).symm
 .rw [aE2 e];unfold aD;rw [aE0 hk,List.find?_append]
  have:[l[k]].find? (λp=>p.k.toList == key.toList)=none:=by
   rw [List.find?_eq_none];intro q hq;rw [aE6] at hq;subst hq;simp only[beq_iff_eq];exact λe'=>e (toList_inj e').symm
  rw [this];simp
end Mth
theorem afh:(Tryz.prog.info? 9).map (λi=>(i.zero,i.size,i.bytes))=some (some (.string ⟨#[]⟩),1,16):=Aab
theorem Mv (a:Option Addr) (cap:Nat) (l:List Pu) (E:Nat->Addr) (w:World) (hl:l.length<=1048600) (ha:aG w a l) (he:iy w E) (hno:jv l=false):
 Calls Tryz.prog 292 #[.slice a l.length cap] w (dU w (.tuple #[.pointer none,uN (E 3)])):=by
 have nH:=Hq (uS a cap l w hl ha);have HE:=Hq he;clear ha he;go_in
 go_wp2_with fail;refine nH.mono ?_;rintro e w1 ⟨rfl,hb1⟩;rw [hno];have ve:=(HE.below hb1).var 3 Aaa;have HB:=Hq hb1;clear hb1 nH;go_wp2_with fail;go_quiet (fail);go_wp2_with fail;go_ret2
 exact⟨rfl,HB.trans ⟨rfl,rfl,rfl,aER _,λ_ _=>rfl⟩⟩
theorem I7 (a:Option Addr) (cap:Nat) (l:List Pu) (w:World) (ha:aG w a l) (hks:∀p∈l,p.k.size<=1048576) (hok:jv l=true):
 Calls Tryz.prog 292 #[.slice a l.length cap] w λe w'=>∃mp mb v,e= .returned (.tuple #[.pointer (some ⟨mp,0,none⟩),.nilIface])/\PM w' w.heap.size mp mb l.length v (l.map (·.k)) (aD l)/\aH w w':=by
 obtain⟨hpu,hpw,hl⟩:=(kH l).1 hok;have Ik:=Hq hpw;have nH:=Hq (uS a cap l w Aaa ha);have HA:=Hq ha;obtain⟨i0,hi,hz0,hz1,hz2⟩:=aFt afh;have Sy:=Hq hks;have hmm:= @run_makeMap Tryz.prog;clear ha hpw hpu hks;go_in
 go_wp2_with fail;refine nH.mono ?_;rintro e w1 ⟨rfl,hb1⟩;rw [hok];have HB1:=Hq hb1;have hw1:=hb1.size;clear hb1 nH hok;go_wp2_with fail;go_loopw [16] (λi wr=>∃(k:Nat) (aa:Option Addr) (cc:Nat),k<=l.length/\i= .int .i64 k/\PM wr w.heap.size (w1.heap.size+1) w1.heap.size k (.slice aa k cc) ((l.take k).map (·.k)) (aD (l.take k))/\aH w wr) (λi _=>l.length - (intOf i).toNat)
 case atStart=>
  refine⟨0,none,0,aE7 _,rfl,⟨?_,?_,?_,Aaa,Aaa⟩,(HB1.alloc Aaa _).alloc Aah _⟩
  .have:=aEP (w1.alloc (.map #[] 0)) (.cells #[.slice none 0 0,.map (some w1.heap.size)] 356);rwa [show(w1.alloc (Obj.map #[] 0)).heap.size=w1.heap.size+1 by simp] at this
  .exact World.ownsRow_nil _ _ _ _
  .exact(iL.made w1).kept (aE4 _ _ _ Aac)
 case round=>
  obtain⟨k,aa,cc,hk,rfl,Iq,hbel⟩:=hrel;have HP:=Hq Iq;have aZ:=Hq hbel;have hwr:=hbel.size;clear Iq hbel;by_cases hlt:k < l.length
  .obtain⟨g,off,rfl,hgw,c0,c1,c2,c3⟩:=aG.four (GR.At.below HA aZ) k hlt;have HUP:=Hq (adN Ik k hlt);have OM:=Hq (aE0 hlt);have hkk:=ah Sy l[k] (aE8 hlt);generalize l[k]=pu at *;obtain⟨pk,pm,pf,ps⟩:=pu;dsimp only at c0 c1 c2 c3 hkk;go_upto_region 7 with fail;refine Fo.wp_at (λV hV=>?_);have hbV:aH wr V:=by rw [hV];exact dS wr _
   open auJ in exact agW
  .open amO in exact uI
theorem ach (B mp mb n:Nat) (v:Value) (l:List Pu) (G:ByteArray->Pu) (w:World) (hl:l.length<=20) (hG:∀p∈l,G p.k=p) (hks:∀p∈l,p.k.size<=1048576) (h:PM w B mp mb n v (l.map (·.k)) G):
 Calls Tryz.prog 294 #[.pointer (some ⟨mp,0,none⟩)] w λe w'=>e= .returned (.slice (some ⟨w.heap.size,0,none⟩) l.length l.length)/\tO w' w.heap.size l/\aH w w':=by
 have hrow:=h.row;rw [aFQ] at hrow
 obtain⟨a,cap,rfl⟩:∃a cap,v= .slice a l.length cap:=by
  exact aiF
 have hmk:=Dt l.length Aaa;have HH:=Hq h;have HG:=Hq hG;have Sy:=Hq hks;have HR:=Hq hrow;obtain⟨⟨m0,m1⟩,_⟩:=mW h.blk;have hmp:=Fo.lt_of_blk h.blk;clear h hG hks hrow;go_in
 go_wp2_with fail;go_loopw [17] (λi wr=>∃k:Nat,k<=l.length/\i= .int .i64 k/\tO wr w.heap.size (l.take k++List.replicate (l.length - k) ⟨ByteArray.empty,0,0,0⟩)/\aH w wr) (λi _=>l.length - (intOf i).toNat)
 case atStart=>exact aik
 case round=>
  open aqe in exact Tf
theorem YD (a:Option Addr) (cap:Nat) (l:List Pu) (key:ByteArray) (dm df ds n:Int) (E:Nat->Addr) (w:World) (hl:l.length<=1048576) (hks:∀p∈l,p.k.size<=1048576) (hkey:key.size<=1048576) (hd1:dm= -1\/dm=0\/dm=1) (hd2:df= -1\/df=0\/df=1) (hd3:ds= -1\/ds=0\/ds=1) (ha:aG w a l) (he:iy w E):
 Calls Tryz.prog 273 #[.slice a l.length cap,.string key,.int .i64 n,shv dm df ds] w λe w'=>aH w w'/\
  (((dB l key dm df ds n).2=false/\∃i,(1<=i/\i < 6)/\e= .returned (.tuple #[.slice none 0 0,uN (E i)]))\/
   ((dB l key dm df ds n).2=true/\∃g,w.heap.size<=g/\e= .returned (.tuple #[.slice (some ⟨g,0,none⟩) (dB l key dm df ds n).1.length (dB l key dm df ds n).1.length,.nilIface])/\tO w' g (dB l key dm df ds n).1)):=by
 have hb0:=dS w (.cells #[.int .i64 dm,.int .i64 df,.int .i64 ds] 261);cases hok:jv l
 .have nA:=Hq (Mv a cap l E _ Aaa (GR.At.below ha hb0) (he.below hb0) hok);have HAD:=Hq (J2 (key:=key) (dm:=dm) (df:=df) (ds:=ds) (n:=n) hok);clear ha he hks hok hb0 hd1 hd2 hd3;go_in
  go_wp2_with fail;refine nA.mono ?_;rintro e w1 ⟨rfl,hb1⟩;have HB1:=Hq (Fo.one_block hb1).2.2;clear hb1;go_wp2_with fail;go_ret2
  exact⟨HB1,.inl ⟨by rw [ah HAD],_,Aaa,rfl⟩⟩
 have HOF:=Hq (I7 a cap l _ (GR.At.below ha hb0) hks hok);have HE:=Hq he;cases hkk:keyOk key.data.toList
 .have HK:=Hq (λw1=>AJ key false w1 hkk)
  have HAD:Hid ((dB l key dm df ds n).2=false):=by
   by_cases hn:1<=n/\n<=1000000000
   .rw [LC hok hn,Zy hkk];rfl
   .rw [LD hn];exact Hq rfl
  open au6 in exact ag4
 have HK:=Hq (λw1=>AJ key true w1 hkk);by_cases hn:1<=n/\n<=1000000000
 case' neg=>
  have HAD:=Hq (LD (l:=l) (key:=key) (dm:=dm) (df:=df) (ds:=ds) hn)
  have Ll:=Hq (λw1=>aO n false w1 (aES hn))
  open au5 in exact ag4
 have Ll:=Hq (λw1=>aO n true w1 (aET hn));have hpo:=zq (l:=l) (key:=key) hok hkk;have u1:=uD hd1 hn;have u2:=uD hd2 hn;have u3:=uD hd3 hn;obtain⟨_,hpw,aCt⟩:=(kH l).1 hok;have HAI:=Hq (LC (key:=key) (dm:=dm) (df:=df) (ds:=ds) hok hn);have Sy:=Hq hks;cases hsp:iG (fq (aD l key) dm df ds n)
 .have HMV:=Hq (λB mp mb n0 v w1 (h:PM w1 B mp mb n0 v (l.map (·.k)) (aD l)) (he1:iy w1 E)=>Mw B mp mb n0 v l key dm df ds n E w1 hkey hpo u1 u2 u3 h he1 hsp)
  have HAD:Hid ((dB l key dm df ds n).2=false):=by
   rw [ah HAI,hsp];rfl
  clear ha he hks hok hb0 hd1 hd2 hd3 hkk hpo u1 u2 u3 hpw hsp HAI;open apL in exact awZ
 .have HMV:=Hq (λB mp mb n0 v w1 (hB:B<=w1.heap.size) (hn0:n0 < maxLen) (h:PM w1 B mp mb n0 v (l.map (·.k)) (aD l)) (he1:iy w1 E)=>P7 B mp mb n0 v l key dm df ds n E w1 hB hkey hn0 aCt hpw hpo u1 u2 u3 h he1 hsp);have hkp:(fq (aD l key) dm df ds n).k=key:=qG l key
  have aaf:Hid (found l key=false->l.length=20->(dB l key dm df ds n).2=false):=by
   intro hf h20;have hlen:=wY (l:=l) (p:=fq (aD l key) dm df ds n) (by rw [hkp];exact hf);rw [ah HAI,hsp,aES Aaa];rfl
  have aal:Hid ((found l key=true\/l.length < 20)->dB l key dm df ds n=(jf l (fq (aD l key) dm df ds n),true)/\(jf l (fq (aD l key) dm df ds n)).length<=20):=by
   intro hf
   have hlen:(jf l (fq (aD l key) dm df ds n)).length<=20:=by
    cases hff:found l key
    .have:=wY (l:=l) (p:=fq (aD l key) dm df ds n) (by rw [hkp];exact hff);rcases hf with hf|hf
     .rw [hff] at hf;cases hf
     .omega
    .have:=tQ (l:=l) (p:=fq (aD l key) dm df ds n) (by rw [hkp];exact hff);omega
   rw [ah HAI,hsp,aET hlen];exact⟨rfl,hlen⟩
  have Sb:Hid (∀q∈jf l (fq (aD l key) dm df ds n),q.k.size<=1048576):=by
   intro q hq;rcases put_mem hq with rfl|hq
   .rw [hkp];exact hkey
   .exact Sy q hq
  have IE:=Hq (ale hpw (fq (aD l key) dm df ds n));clear ha he hks hok hb0 hd1 hd2 hd3 hkk hpo u1 u2 u3 hpw hsp HAI hkp;generalize jf l (fq (aD l key) dm df ds n)=PL at *;generalize upd (aD l) (fq (aD l key) dm df ds n)=G2 at *;open apK in exact awZ
theorem Mth.addP_no {l:List Pu} {key:ByteArray} {dm df ds n:Int} (h:(dB l key dm df ds n).2=false):(dB l key dm df ds n).1=l:=by
 exact ai4
def j6 (w:World) (r:List Pu×Bool) (e:Ending) (w':World):Prop:=∃a c g,w.heap.size<=g/\e= .returned (.tuple #[.slice a r.1.length c,.bool r.2])/\yg w' a g r.1/\aH w w'
theorem AL (a:Option Addr) (cap:Nat) (l:List Pu) (key:ByteArray) (dm df ds n:Int) (E:Nat->Addr) (w:World) (hl:l.length<=1048576) (hks:∀p∈l,p.k.size<=1048576) (hkey:key.size<=1048576) (hd1:dm= -1\/dm=0\/dm=1) (hd2:df= -1\/df=0\/df=1) (hd3:ds= -1\/ds=0\/ds=1) (ha:aG w a l) (he:iy w E):
 Calls Tryz.prog 239 #[.slice a l.length cap,.string key,.int .i64 n,shv dm df ds] w (j6 w (dB l key dm df ds n)):=by
 have hb0:=dS w (.cells #[.int .i64 dm,.int .i64 df,.int .i64 ds] 261);have HMV:=Hq (YD a cap l key dm df ds n E _ hl hks hkey hd1 hd2 hd3 (GR.At.below ha hb0) (he.below hb0));have HE:=Hq he;have EL:=Hq (λw1 (hb:aH w w1)=>PY a cap l w1 hl hks (GR.At.below ha hb));have nA:=Hq (addP_no (l:=l) (key:=key) (dm:=dm) (df:=df) (ds:=ds) (n:=n));clear ha he hks hb0 hd1 hd2 hd3;generalize dB l key dm df ds n=r at *;obtain⟨L,bo⟩:=r;dsimp only at HMV nA;unfold j6;go_in
 go_wp2_with fail;refine HMV.mono ?_;rintro e w1 ⟨hb1,hcase⟩;have HB1:=Hq (Fo.one_block hb1).2.2;have HS:=Hq hb1.size;clear hb1 HMV;rcases hcase with⟨hno,i,hi,rfl⟩|⟨hyes,g,hg,rfl,hblk⟩
 .have hL:=ah nA hno;subst hno hL;have HIR:=Hq (MJ (HE.below HB1) i hi);have HCX:=Hq (EL _ HB1);clear EL nA;go_wp2_with fail;refine HIR.mono ?_;rintro e w2 ⟨rfl,rfl⟩;go_wp2_with fail;refine HCX.mono ?_;rintro e w3 ⟨a3,c3,g3,hg3,rfl,hblk3,hb3⟩;have Sw:=Hq hblk3;have HB3:=Hq (HB1.trans (hb3.mono HB1.size));clear hblk3 hb3;go_wp2_with fail;go_ret2
  exact⟨_,_,g3,aEU HB1.size hg3,rfl,Sw,HB3⟩
 .subst hyes;have HIR:=Hq (Jf (HE.below HB1));have HK:=Hq hblk;have hge:w.heap.size<=g:=by have:=ah HS;simp at hg;omega
  clear EL nA hblk;go_wp2_with fail;refine HIR.mono ?_;rintro e w2 ⟨rfl,rfl⟩;go_wp2_with fail;go_ret2
  exact⟨_,_,g,hge,rfl,yg.of_blk HK,HB1⟩
theorem acj (hl:l.length<=1048576) (hks:∀p∈l,p.k.size<=1048576) (hkey:key.size<=1048576) (ha:aG w a l) (he:iy w E):
 Calls Tryz.prog 215 #[.slice a l.length cap,.string key,.int .i64 n] w (j6 w (dB l key (1) (1) (0) n)):=by
 have H:=Hq (AL a cap l key (1) (1) (0) n E w hl hks hkey Aaa Aaa Aaa ha he);clear ha he hks;generalize dB l key (1) (1) (0) n=r at *;unfold j6 at *;go_in
 exact abl
theorem acf (hl:l.length<=1048576) (hks:∀p∈l,p.k.size<=1048576) (hkey:key.size<=1048576) (ha:aG w a l) (he:iy w E):
 Calls Tryz.prog 279 #[.slice a l.length cap,.string key,.int .i64 n] w (j6 w (dB l key (0) (1) (0) n)):=by
 have H:=Hq (AL a cap l key (0) (1) (0) n E w hl hks hkey Aaa Aaa Aaa ha he);clear ha he hks;generalize dB l key (0) (1) (0) n=r at *;unfold j6 at *;go_in
 exact abl
theorem acn (hl:l.length<=1048576) (hks:∀p∈l,p.k.size<=1048576) (hkey:key.size<=1048576) (ha:aG w a l) (he:iy w E):
 Calls Tryz.prog 245 #[.slice a l.length cap,.string key,.int .i64 n] w (j6 w (dB l key (0) (-1) (0) n)):=by
 have H:=Hq (AL a cap l key (0) (-1) (0) n E w hl hks hkey Aaa Aaa Aaa ha he);clear ha he hks;generalize dB l key (0) (-1) (0) n=r at *;unfold j6 at *;go_in
 exact abl
theorem YI (hl:l.length<=1048576) (hks:∀p∈l,p.k.size<=1048576) (hkey:key.size<=1048576) (ha:aG w a l) (he:iy w E):
 Calls Tryz.prog 217 #[.slice a l.length cap,.string key,.int .i64 n] w (j6 w (dB l key (0) (-1) (1) n)):=by
 have H:=Hq (AL a cap l key (0) (-1) (1) n E w hl hks hkey Aaa Aaa Aaa ha he);clear ha he hks;generalize dB l key (0) (-1) (1) n=r at *;unfold j6 at *;go_in
 exact abl
theorem Qd (hl:l.length<=1048576) (hks:∀p∈l,p.k.size<=1048576) (hkey:key.size<=1048576) (ha:aG w a l) (he:iy w E):
 Calls Tryz.prog 219 #[.slice a l.length cap,.string key,.int .i64 n] w (j6 w (dB l key (0) (1) (-1) n)):=by
 have H:=Hq (AL a cap l key (0) (1) (-1) n E w hl hks hkey Aaa Aaa Aaa ha he);clear ha he hks;generalize dB l key (0) (1) (-1) n=r at *;unfold j6 at *;go_in
 exact abl
end Go.Proofs.YtbolgdleijjgfaaGreatDoor
