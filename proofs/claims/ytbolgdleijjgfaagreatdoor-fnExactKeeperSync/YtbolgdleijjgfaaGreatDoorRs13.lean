/- Parts. -/
import Derived.Test.YtbolgdleijjgfaaGreatDoorRs12
import Derived.Test.YtbolgdleijjgfaaGreatDoorRs11
import Derived.Test.YtbolgdleijjgfaaGreatDoorRs10
namespace Go.Proofs.YtbolgdleijjgfaaGreatDoor
open Go.Proofs.Tryz
set_option maxHeartbeats 4000000
set_option maxRecDepth 100000
open Go.RowKit Go.Maps
open Mth
variable (a:Option Addr) (cap:Nat) (l:List Pu) {w w':World} {B n mb g mp:Nat} {v:Value} {ks:List ByteArray} {G:ByteArray->Pu} {xs:List Value}
theorem Pf (w:World) (hl:l.length<=1048600) (ha:aG w a l):
 Calls prog 133 #[.slice a l.length cap] w λe w'=>∃v,e= .returned v/\w'.ownsRow w.heap.size 155 4 v l.length (GR.flat fu l)/\aH w w':=by
 obtain⟨i0,hi,hz0,hz1,hz2⟩:=aFm FN;have q22:∀(w:World) (a:Option Addr) (n c n' c':Nat),(binOp .eql 34 (.slice a n c) (.slice none n' c')).run prog w= .ok (.bool a.isNone) w:=λw a n c n' c'=>aGd w _ _ a n c n' c' underlying34
 open avs in exact ahg
theorem xV.of_own {l:List Pu} (h:w.ownsRow B 155 4 v l.length (GR.flat fu l)) (hB:B<=w.heap.size):∃a c g,v= .slice a l.length c/\B<=g/\xV w a g l:=by
 obtain⟨a,c,rfl,hat⟩:=GR.own_at aP h;rcases h.2 with⟨hv,hn⟩|⟨g,cap,cur,hv,hg,hblk,_⟩
 .have hl:l=[]:=aFg hn;subst hl;exact⟨_,_,w.heap.size,rfl,hB,xV.nil⟩
 .cases hv
  refine⟨_,_,g,rfl,hg,λi hi=>?_⟩;exact ahV
theorem PV (w:World) (hl:l.length<=1048576) (hks:∀p∈l,p.k.size<=1048576) (ha:aG w a l):
 Calls prog 106 #[.slice a l.length cap] w λe w'=>∃a' c' g,w.heap.size<=g/\e= .returned (.slice a' l.length c')/\xV w' a' g l/\aH w w':=by
 have jJ:=Hq (Pf a cap l w Aaa ha);have Sr:=Hq hks;clear ha hks;go_in
 go_wp2_with fail;refine jJ.mono ?_;rintro e w1 ⟨v,rfl,hown,hb1⟩;obtain⟨a',c',g,rfl,hg,hW⟩:=xV.of_own hown hb1.size;have HW:=Hq hW;have HB1:=Hq hb1;clear hown hb1 hW jJ;go_wp2_with fail;go_loopw [10] (λi wr=>∃k:Nat,k<=l.length/\i= .int .i64 k/\xV wr a' g l/\aH w wr) (λi _=>l.length - (intOf i).toNat)
 case atStart=>exact⟨0,aE1 _,rfl,HW,HB1⟩
 case round=>
  obtain⟨k,hk,rfl,hB,hbel⟩:=hrel;have HB:=Hq hB;have aY:=Hq hbel;clear hB hbel;by_cases hlt:k < l.length
  .obtain⟨e0,hgw,⟨q0,q1,q2,q3⟩,_⟩:=xV.four HB k hlt;subst e0;have hkk:=ah Sr l[k] (aE2 hlt);have hse:l.set k l[k]=l:=List.set_getElem_self hlt;have HSE:=Hq hse;clear hse;open avF in exact ahm
  .open amW in exact uz
open Go.RowKit
theorem mE:∀(vs:List Value) {w:World} {g o:Nat} {xs:List Value} {t:TypeId},w.heap[g]?=some (.cells xs.toArray t (0,0))->(w.setCells g o vs).heap[g]?=some (.cells (GR.setRun xs o vs).toArray t (0,0)):=by
 intro vs;induction vs with
 |nil=>intro w g o xs t h;exact h
 |cons v vs ih=>
  intro w g o xs t h;refine ih (xs:=xs.set o v) ?_;have:=Fo.blk_set h o v;simpa using this
theorem qO {g g':Nat} (hne:g'≠g):∀(vs:List Value) (w:World) (o:Nat),(w.setCells g o vs).heap[g']?=w.heap[g']?:=by
 intro vs;induction vs with
 |nil=>intro w o;rfl
 |cons v vs ih=>intro w o;exact(ih (w.setCell ⟨g,o,none⟩ v) (o+1)).trans (aE9 _ _ _ _ hne)
theorem setCells_size {g:Nat}:∀(vs:List Value) (w:World) (o:Nat),(w.setCells g o vs).heap.size=w.heap.size:=by
 intro vs;induction vs with
 |nil=>intro w o;rfl
 |cons v vs ih=>intro w o;exact(ih (w.setCell ⟨g,o,none⟩ v) (o+1)).trans (Fo.setCell_size w _ v)
theorem gK {g:Nat}:∀(vs:List Value) (w:World) (o:Nat),(w.setCells g o vs).os=w.os/\(w.setCells g o vs).tape=w.tape/\(w.setCells g o vs).output=w.output:=by
 intro vs;induction vs with
 |nil=>intro w o;exact⟨rfl,rfl,rfl⟩
 |cons v vs ih=>intro w o;exact ih (w.setCell ⟨g,o,none⟩ v) (o+1)
theorem qM (w:World) (g o:Nat) (vs:List Value):w.grownBy (w.setCells g o vs) (some g):=
 ⟨(gK vs w o).1,(gK vs w o).2.1,(gK vs w o).2.2,by rw [setCells_size];exact aEM _,λk _ hne=>qO (λe=>hne Aap) vs w o⟩
theorem qP (a m b vs:List Value) (h:vs.length=m.length):GR.setRun (a++(m++b)) a.length vs=a++(vs++b):=by
 have:=GR.setRun_append_right a vs 0 (m++b);rw [aGw] at this;rw [this,GR.setRun_head vs m b h]
def xZ (ks:List ByteArray) (i:Nat) (key:ByteArray):List Value:=(ks.map Value.string).take i++(.string key::(ks.map Value.string).drop i)
theorem nX (ks:List ByteArray) (i:Nat) (key:ByteArray) (hi:i<=ks.length):(xZ ks i key).length=ks.length+1:=by
 unfold xZ;simp;omega
theorem Bb (ks:List ByteArray):∀v∈ks.map Value.string,v.oneCell'=true:=by
 intro v hv;obtain⟨k,_,rfl⟩:=aGk.1 hv;rfl
theorem ax9 (B:Nat) (v:Value) (l:List Pu) (key:ByteArray) (w:World) (hp:l.Pairwise Og) (hl:l.length<=20) (h:w.ownsRow B 9 1 v l.length ((l.map (·.k)).map Value.string)):
 Calls prog 311 #[v,.string key] w λe w'=>e= .returned (.tuple #[.int .i64 (place l key:Nat),.bool (found l key)])/\∃q,w'=w.drewN q:=by
 by_cases h0:l.length=0
 .have hl0:l=[]:=aFg h0;subst hl0
  have hv:∃a c,v= .slice a 0 c:=by
   rcases h.2 with⟨rfl,_⟩|⟨g,cap,cur,rfl,_⟩
   .exact⟨none,0,rfl⟩
   .exact⟨_,_,rfl⟩
  obtain⟨a,c,rfl⟩:=hv;exact(Any2.slices_BinarySearch_string_empty FZ a c key w).mono λe w' ⟨he,hw⟩=>⟨by rw [he];rfl,0,hw⟩
 .obtain⟨g,cap,rfl,_,_⟩:=h.form Aaa
  have hb:=Any2.slices_BinarySearch_string FZ g 0 l.length cap (Ar l key) key w Aaa (λj hj=>by
   have hc:=h.cellAt j Aaa
   rw [aFz,hc]
   unfold Ar
   simp[hj])
  rw [abu hp key,Pb l key] at hb;exact hb
theorem MC {cap:Nat} {i:Nat} {key:ByteArray} {bs:List Value} (hi:i<=ks.length) (hg:B<=g) (hcap:ks.length+1<=cap) (hcm:cap<=maxLen) (hlen:(xZ ks i key++bs).length=cap) (h:w.heap[g]?=some (.cells (xZ ks i key++bs).toArray 9 (0,0))):w.ownsRow B 9 1 (.slice (some ⟨g,0,none⟩) (ks.length+1) cap) (ks.length+1) (xZ ks i key):=by
 have hl:=nX ks i key hi;refine⟨Aaa,.inr ⟨g,cap,_,rfl,hg,h,hcap,hcm,by rw [aFH];omega,?_⟩⟩;rw [List.toList_toArray,Nat.mul_one,<-hl,List.take_left'];rfl
theorem vK (n:Nat):(Builtin.zeroCells (Value.string ⟨#[]⟩).cells n).toList.length=n:=by
 rw [aFu,size_zeroCells];simp[Value.cells]
theorem Ch (w:World) (o:Obj) (row:Option Nat):w.grownBy (w.drew.alloc o) row:=
 ⟨rfl,rfl,rfl,Aac,λk hk _=>aEZ w.drew _ _ hk⟩
theorem Qi (ks:List ByteArray) (key:ByteArray):xZ ks ks.length key=ks.map Value.string++[.string key]:=by
 unfold xZ;rw [aGh Aac,List.drop_of_length_le Aac]
theorem FU (B:Nat) (base:Option Addr) (c:Nat) (ks:List ByteArray) (key:ByteArray) (vb:Nat) (w:World) (hn:ks.length<=20) (hB:B<=w.heap.size) (hnc:ks.length<=c) (hroom:c < ks.length+1) (hnil:base=none->ks.length=0) (hcs:∀a,base=some a->∀(j:Nat) (v:Value),(ks.map Value.string)[j]?=some v->w.cell? (a.add j)=some v) (hvs:∀(j:Nat) (u:Value),[Value.string key][j]?=some u->w.cell? ⟨vb,0+j,none⟩=some u) (h1v:∀u∈[Value.string key],u.oneCell'=true) (row:Option Nat):
 Calls prog 312 #[.slice base ks.length c,.int .i64 (ks.length:Nat),.slice (some ⟨vb,0,none⟩) 1 1] w λe w'=>∃v',e= .returned v'/\w'.ownsRow B 9 1 v' (ks.length+1) (xZ ks ks.length key)/\w.grownBy w' row:=by
 refine(Any2.slices_Insert_string_end_grow uT base ks.length c vb 0 1 1 (ks.map Value.string) [.string key] w Aaa hnc hroom Aaa Aac rfl hnil hcs hvs h1v).mono λe w' ⟨he,hw⟩=>?_
 have hge:=grownCap_ge w (ks.length+1) c (vN.t 9);have hle:=grownCap_le_maxLen w (ks.length+1) c (vN.t 9) Aaj;refine⟨_,he,?_,by rw [hw];exact Ch w _ row⟩;generalize grownCap w (ks.length+1) c (vN.t 9)=cap at *;refine MC (w:=w') (bs:=(Builtin.zeroCells (Value.string ⟨#[]⟩).cells (cap - (ks.length+1))).toList) (aEM _) hB hge hle ?_ ?_
 .rw [aER,vK,nX _ _ _ (aEM _)];omega
 .rw [hw];have:=aEK w.drew (.cells ((ks.map Value.string++[Value.string key]).toArray++Builtin.zeroCells (Value.string ⟨#[]⟩).cells (cap - (ks.length+1))) (vN.t 9));refine Eq.trans this ?_;rw [Qi]
  have e:(ks.map Value.string++[Value.string key]).toArray++Builtin.zeroCells (Value.string ⟨#[]⟩).cells (cap - (ks.length+1))=(ks.map Value.string++[Value.string key]++(Builtin.zeroCells (Value.string ⟨#[]⟩).cells (cap - (ks.length+1))).toList).toArray:=by
   apply Array.toList_inj.1
   simp
  rw [e];rfl
theorem alc (B:Nat) (v:Value) (ks:List ByteArray) (i:Nat) (key:ByteArray) (vb:Nat) (w:World) (hi:i<=ks.length) (hn:ks.length<=20) (hB:B<=w.heap.size) (h:w.ownsRow B 9 1 v ks.length (ks.map Value.string)) (hv:w.heap[vb]?=some (.cells #[.string key] 9 (0,0))) (hvb:v.ownBlock≠some vb):
 Calls prog 312 #[v,.int .i64 (i:Nat),.slice (some ⟨vb,0,none⟩) 1 1] w λe w'=>∃v',e= .returned v'/\w'.ownsRow B 9 1 v' (ks.length+1) (xZ ks i key)/\w.grownBy w' v.ownBlock:=by
 have hvs:∀(j:Nat) (u:Value),[Value.string key][j]?=some u->w.cell? ⟨vb,0+j,none⟩=some u:=λj u hu=>by
  rw [aEW w vb _ _ 9 (0,0) hv,aFz]
  simpa using hu
 have h1v:∀u∈[Value.string key],u.oneCell'=true:=λu hu=>by rw [aE3.1 hu];rfl
 have hfree:∀j,w.frozen? ⟨vb,j,none⟩=false:=λj=>by unfold World.frozen?;rw [hv];simp
 have hsa:w.shape? vb=some (9,1):=by unfold World.shape?;rw [hv];rfl
 rcases h.2 with⟨rfl,h0⟩|⟨g,cap,cur,rfl,hg,hblk,hnc,hcm,hcs,htk⟩
 .have hi0:i=ks.length:=Aaa
  subst hi0;have:=FU B none 0 ks key vb w hn hB Aaa Aaa (λ_=>h0) (λa ha=>by cases ha) hvs h1v none;rw [h0] at this ⊢;exact this
 have aCN:vb≠g:=λe=>hvb (by rw [e];rfl)
 obtain⟨sp,hcur⟩:∃sp,cur.toList=ks.map Value.string++sp:=⟨cur.toList.drop ks.length,by
  rw [Nat.mul_one] at htk
  rw [<-htk,aFE]⟩
 have hblk2:w.heap[g]?=some (.cells (ks.map Value.string++sp).toArray 9 (0,0)):=by rw [hblk,<-hcur]
 have ace:ks.length+sp.length=cap:=by
  have:=congrArg List.length hcur;rw [aFu,hcs] at this;simp at this;omega
 have hcell:∀j,w.cell? ⟨g,j,none⟩=(ks.map Value.string++sp)[j]?:=λj=>by
  rw [aEW w g j _ 9 (0,0) hblk2]
  simp
 have hfz:∀j,w.frozen? ⟨g,j,none⟩=false:=λj=>by unfold World.frozen?;rw [hblk2];simp
 have akN:∀(j:Nat) (u:Value),(ks.map Value.string)[j]?=some u->w.cell? ⟨g,0+j,none⟩=some u:=λj u hu=>by
  rw [aFz,hcell,aF8 (aFF.1 hu).1]
  exact hu
 rcases aFX i ks.length with hlt|hge
 .obtain⟨ra,hra⟩:∃ra,ra=(ks.map Value.string).take i:=⟨_,rfl⟩;obtain⟨rb,hrb⟩:∃rb,rb=(ks.map Value.string).drop i:=⟨_,rfl⟩;have hsplit:ks.map Value.string=ra++rb:=by rw [hra,hrb,aFE]
  have ayM:ra.length=i:=by rw [hra];simp;omega
  have aD7:rb.length=ks.length - i:=by rw [hrb];simp
  have hins:xZ ks i key=ra++(.string key::rb):=by unfold xZ;rw [<-hra,<-hrb]
  by_cases hroom:ks.length+1<=cap
  .have hsb:w.shape? g=some (9,cap):=by unfold World.shape?;rw [hblk2];simp;omega
   refine(Any2.slices_Insert_string_shift uT g 0 ks.length cap i vb 0 1 1 (ks.map Value.string) [.string key] w hlt Aaa hroom Acb aCN Aac rfl akN
    (λj hj=>by rw [aFz,hcell];simp;omega) (λj _=>hfz _) hvs (Bb ks) h1v 9 9 1 cap hsa hsb Aaa (hfree _) (hfree _)).mono λe w' ⟨he,hw⟩=>?_
   obtain⟨s0,sp',hsp⟩:∃s0 sp',sp=s0::sp':=by
    exact aiZ
   obtain⟨x0,A,hxA,hAl⟩:∃x0 A,rb++[s0]=x0::A/\A.length=rb.length:=by
    cases hb:rb++[s0] with
    |nil=>simp at hb
    |cons x0 A=>
     refine⟨x0,A,rfl,?_⟩;have:=congrArg List.length hb;simp at this;omega
   have hxs:ks.map Value.string++sp=(ra++[x0])++(A++sp'):=by
    rw [hsplit,hsp];have:ra++rb++s0::sp'=ra++((rb++[s0])++sp'):=Aac
    rw [this,hxA];simp
   have e1:GR.setRun (ks.map Value.string++sp) (0+(i+1)) rb=(ra++[x0])++(rb++sp'):=by
    rw [hxs];have:=qP (ra++[x0]) A sp' rb hAl.symm;rw [show(ra++[x0]).length=0+(i+1) by simp;omega] at this;exact this
   have e2:GR.setRun ((ra++[x0])++(rb++sp')) (0+i) [.string key]=xZ ks i key++sp':=by
    have:=qP ra [x0] (rb++sp') [.string key] rfl;rw [ayM] at this;rw [aFz,hins];have e:(ra++[x0])++(rb++sp')=ra++([x0]++(rb++sp')):=Aac
    rw [e,this];simp
   refine⟨_,he,MC (bs:=sp') hi hg hroom hcm ?_ ?_,?_⟩
   .rw [aER,nX ks i key hi];rw [hsp] at ace;simp at ace;omega
   .rw [hw,<-hrb];have h1:=mE rb (w:=w.drew) (o:=0+(i+1)) hblk2;rw [e1] at h1;have h2:=mE [.string key] (o:=0+i) h1;rw [e2] at h2;exact h2
   .rw [hw];have h1:=qM w.drew g (0+(i+1)) ((ks.map Value.string).drop i);have h2:=qM (w.drew.setCells g (0+(i+1)) ((ks.map Value.string).drop i)) g (0+i) [.string key];exact⟨h2.os.trans h1.os,h2.tape.trans h1.tape,h2.output.trans h1.output,aEP h1.size h2.size,λk hk hne=>(h2.block k (aEU hk h1.size) hne).trans (h1.block k hk hne)⟩
  .have aDs:cap=ks.length:=Aaa
   refine(Any2.slices_Insert_string_grow uT g 0 ks.length cap i vb 0 1 1 (ks.map Value.string) [.string key] w hlt Aaa hnc Aaa Aaa Aac rfl akN hvs (Bb ks) h1v).mono λe w' ⟨he,hw⟩=>?_
   have hge:=grownCap_ge w (ks.length+1) cap (vN.t 9);have hle:=grownCap_le_maxLen w (ks.length+1) cap (vN.t 9) Aaj;generalize grownCap w (ks.length+1) cap (vN.t 9)=cap' at *;obtain⟨z1,hz1⟩:∃z1,z1=(Builtin.zeroCells (Value.string ⟨#[]⟩).cells (ks.length+1 - i)).toList:=⟨_,rfl⟩;obtain⟨z2,hz2⟩:∃z2,z2=(Builtin.zeroCells (Value.string ⟨#[]⟩).cells (cap' - (ks.length+1))).toList:=⟨_,rfl⟩;have afn:z1.length=ks.length+1 - i:=by rw [hz1,vK]
   have D6:z2.length=cap' - (ks.length+1):=by rw [hz2,vK]
   obtain⟨x0,A,hxA⟩:∃x0 A,z1=x0::A:=by
    cases z1 with
    |nil=>simp at afn;omega
    |cons x0 A=>exact⟨x0,A,rfl⟩
   have hAl:A.length=rb.length:=by rw [hxA] at afn;simp at afn;omega
   have hall:(w.alloc (.cells (((ks.map Value.string).take i).toArray++Builtin.zeroCells (Value.string ⟨#[]⟩).cells (ks.length+1 - i)++Builtin.zeroCells (Value.string ⟨#[]⟩).cells (cap' - (ks.length+1))) (vN.t 9))).heap[w.heap.size]?=some (.cells (ra++([x0]++(A++z2))).toArray 9 (0,0)):=by
    refine Eq.trans (aEK w _) ?_
    have e:((ks.map Value.string).take i).toArray++Builtin.zeroCells (Value.string ⟨#[]⟩).cells (ks.length+1 - i)++Builtin.zeroCells (Value.string ⟨#[]⟩).cells (cap' - (ks.length+1))=(ra++([x0]++(A++z2))).toArray:=by
     apply Array.toList_inj.1
     rw [aGy,aGy,<-hz1,<-hz2,hxA,hra];simp
    rw [e];rfl
   have e1:GR.setRun (ra++([x0]++(A++z2))) i [.string key]=(ra++[.string key])++(A++z2):=by
    have:=qP ra [x0] (A++z2) [.string key] rfl;rw [ayM] at this;rw [this];simp
   have e2:GR.setRun ((ra++[.string key])++(A++z2)) (i+1) rb=xZ ks i key++z2:=by
    have:=qP (ra++[.string key]) A z2 rb hAl.symm;rw [show(ra++[Value.string key]).length=i+1 by simp;omega] at this;rw [this,hins];simp
   refine⟨_,he,MC (bs:=z2) hi hB hge hle ?_ ?_,?_⟩
   .rw [aER,nX ks i key hi];omega
   .rw [hw,<-hrb];have h1:=mE [.string key] (w:=(w.alloc (.cells (((ks.map Value.string).take i).toArray++Builtin.zeroCells (Value.string ⟨#[]⟩).cells (ks.length+1 - i)++Builtin.zeroCells (Value.string ⟨#[]⟩).cells (cap' - (ks.length+1))) (vN.t 9))).drew) (o:=i) hall;rw [e1] at h1;have h2:=mE rb (w:=((w.alloc (.cells (((ks.map Value.string).take i).toArray++Builtin.zeroCells (Value.string ⟨#[]⟩).cells (ks.length+1 - i)++Builtin.zeroCells (Value.string ⟨#[]⟩).cells (cap' - (ks.length+1))) (vN.t 9))).drew.setCells w.heap.size i [.string key]).drew) (o:=i+1) h1;rw [e2] at h2;exact h2
   .rw [hw];refine⟨?_,?_,?_,?_,?_⟩
    .rw [(gK _ _ _).1];exact(gK _ _ _).1
    .rw [(gK _ _ _).2.1];exact(gK _ _ _).2.1
    .rw [(gK _ _ _).2.2];exact(gK _ _ _).2.2
    .rw [setCells_size];refine aEP ?_ (Nat.le_of_eq (setCells_size _ _ _).symm);show w.heap.size<=(w.alloc _).heap.size
     simp
    .intro k hk _;rw [qO Aaa];refine(qO (g:=w.heap.size) (g':=k) Aaa _ _ _).trans ?_;exact aEZ w _ _ hk
 .have hie:i=ks.length:=Aaa
  subst hie;by_cases hroom:ks.length+1<=cap
  .refine(Any2.slices_Insert_string_end_room uT g 0 ks.length cap vb 0 1 1 [.string key] w Aaa hroom Acb rfl
    (λj hj=>by rw [aFz,hcell];simp;omega) (λj _=>hfz _) hvs h1v).mono λe w' ⟨he,hw⟩=>?_
   obtain⟨s0,sp',hsp⟩:∃s0 sp',sp=s0::sp':=by
    exact aiZ
   have e1:GR.setRun (ks.map Value.string++sp) (0+ks.length) [.string key]=xZ ks ks.length key++sp':=by
    have:=qP (ks.map Value.string) [s0] sp' [.string key] rfl;rw [aFL] at this;rw [aFz,hsp,Qi];have e:ks.map Value.string++s0::sp'=ks.map Value.string++([s0]++sp'):=Aac
    rw [e,this];simp
   refine⟨_,he,MC (bs:=sp') (aEM _) hg hroom hcm ?_ ?_,by rw [hw];exact qM w g (0+ks.length) [.string key]⟩
   .rw [aER,nX ks _ key (aEM _)];rw [hsp] at ace;simp at ace;omega
   .rw [hw];have h1:=mE [.string key] (w:=w) (o:=0+ks.length) hblk2;rw [e1] at h1;exact h1
  .exact FU B (some ⟨g,0,none⟩) cap ks key vb w hn hB hnc Aaa (λha=>by cases ha) (λa ha j u hu=>by
    injection ha with ha
    subst ha
    have e:(⟨g,0,none⟩:Addr).add j=⟨g,0+j,none⟩:=by unfold Addr.add;split<;>simp_all
    rw [e]
    exact akN j u hu) hvs h1v (some g)
structure PM (w:World) (B mp mb n:Nat) (v:Value) (ks:List ByteArray) (G:ByteArray->Pu):Prop where
 blk:w.heap[mp]?=some (.cells #[v,.map (some mb)] 356 (0,0))
 row:w.ownsRow B 9 1 v ks.length (ks.map Value.string)
 map:iG w mb n G
 lop:B<=mp
 lom:B<=mb
theorem own_ne {t:TypeId} {cs:Array Value} {fr:Nat×Nat} (h:w.ownsRow B 9 1 v n xs) (hg:w.heap[g]?=some (.cells cs t fr)) (ht:t≠9):v.ownBlock≠some g:=by
 rcases h.2 with⟨rfl,_⟩|⟨g',cap,cur,rfl,_,hb,_⟩
 .intro e;cases e
 .intro e;injection e with e
  have e':g'=g:=e;subst e';rw [hg] at hb;injection hb with hb
  injection hb with h1 h2 h3
  exact ht h2
theorem ze {es:Array MapEntry} {clock:Nat} (h:w.ownsRow B 9 1 v n xs) (hg:w.heap[g]?=some (.map es clock)):v.ownBlock≠some g:=by
 rcases h.2 with⟨rfl,_⟩|⟨g',cap,cur,rfl,_,hb,_⟩
 .intro e;cases e
 .intro e;injection e with e
  have e':g'=g:=e;subst e';rw [hg] at hb;cases hb
theorem iG.blk (h:iG w mb n G):∃es clock,w.heap[mb]?=some (.map es clock):=by
 obtain⟨D,⟨es,clock,h1,_⟩,_⟩:=h;exact⟨es,clock,h1⟩
theorem PM.mpmb (h:PM w B mp mb n v ks G):mp≠mb:=by
 obtain⟨es,clock,hb⟩:=h.map.blk;intro e;have:=h.blk;rw [e,hb] at this;cases this
theorem PM.below (h:PM w B mp mb n v ks G) (hb:aH w w'):PM w' B mp mb n v ks G:=by
 have hg:w.grownBy w' none:=⟨hb.os,hb.tape,hb.output,hb.size,λk hk _=>hb.block k hk⟩;refine⟨?_,?_,?_,h.lop,h.lom⟩
 .rw [hb.block _ (Fo.lt_of_blk h.blk)];exact h.blk
 .refine h.row.kept hg ?_;exact ai0
 .exact h.map.kept (hb.block _ h.map.lt)
theorem PM.drewN {q:Nat} (h:PM w B mp mb n v ks G):PM (w.drewN q) B mp mb n v ks G:=⟨h.blk,h.row,h.map,h.lop,h.lom⟩
theorem PM.turned {n':Nat} {G':ByteArray->Pu} (h:PM w B mp mb n v ks G) (hk:Keeps mb w w') (hm:iG w' mb n' G'):PM w' B mp mb n' v ks G':=by
 have hg:w.grownBy w' (some mb):=⟨hk.os,hk.tape,hk.output,hk.size,λk hl hne=>hk.block k hl (λe=>hne Aap)⟩;obtain⟨es,clock,hb⟩:=h.map.blk;refine⟨?_,?_,hm,h.lop,h.lom⟩
 .rw [hk.block _ (Fo.lt_of_blk h.blk) h.mpmb];exact h.blk
 .refine h.row.kept hg (.inr (ze h.row hb))
theorem Di (hk:Keeps g w w') (hg:B<=g) (hB:B<=w.heap.size):Below B w w':=⟨hk.os,hk.tape,hk.output,hk.size,λk hl=>hk.block k Aaa Aaa⟩
abbrev shv (dm df ds:Int):Value:= .agg #[.int .i64 dm,.int .i64 df,.int .i64 ds]
theorem Bu {w1:World} {A B C:Obj} (hb:Below (((w.alloc A).alloc B).alloc C).heap.size (((w.alloc A).alloc B).alloc C) w1):
 w1.heap[w.heap.size]?=some A/\w1.heap[w.heap.size+1+1]?=some C/\aH w w1:=by
 have hs:(((w.alloc A).alloc B).alloc C).heap.size=w.heap.size+1+1+1:=Aac
 refine⟨?_,?_,((((aEY _ _).alloc (aEM _) _).alloc Aac _).alloc Aah _).trans (hb.mono Aaa)⟩
 .rw [hb.block _ Aaa,aEZ _ _ _ Aah,aEZ _ _ _ Aac];exact aEK w A
 .rw [hb.block _ Aaa];have h:=aEK ((w.alloc A).alloc B) C;rwa [show((w.alloc A).alloc B).heap.size=w.heap.size+1+1 by simp] at h
theorem Mw (p:Pu) (dm df ds n:Int) (w:World) (hp:iB p=true) (h1:-1000000000<=dm*n/\dm*n<=1000000000) (h2:-1000000000<=df*n/\df*n<=1000000000) (h3:-1000000000<=ds*n/\ds*n<=1000000000) (hf:0<=p.f+df*n) (hs:0<=p.s+ds*n) (hok:iB (eX p dm df ds n)=true):
 Calls prog 305 #[yc p,shv dm df ds,.int .i64 n] w (dM w (.tuple #[yc (eX p dm df ds n),.nilIface])):=by
 have HO:=Hq (λw1=>ql (eX p dm df ds n) true w1 hok);open anT in exact ajY
theorem Cm (p:Pu) (dm df ds n:Int) (E:Nat->Addr) (w:World) (hp:iB p=true) (h1:-1000000000<=dm*n/\dm*n<=1000000000) (h2:-1000000000<=df*n/\df*n<=1000000000) (h3:-1000000000<=ds*n/\ds*n<=1000000000) (hf:0<=p.f+df*n) (hs:0<=p.s+ds*n) (hok:iB (eX p dm df ds n)=false) (he:gY w E):
 Calls prog 305 #[yc p,shv dm df ds,.int .i64 n] w (dM w (.tuple #[yc ⟨⟨#[]⟩,0,0,0⟩,uJ (E 5)])):=by
 have HO:=Hq (λw1=>ql (eX p dm df ds n) false w1 hok);have HE:=Hq he;open anS in exact ajY
theorem Ea (p:Pu) (dm df ds n:Int) (E:Nat->Addr) (w:World) (hp:iB p=true) (h1:-1000000000<=dm*n/\dm*n<=1000000000) (h2:-1000000000<=df*n/\df*n<=1000000000) (h3:-1000000000<=ds*n/\ds*n<=1000000000) (hf:p.f+df*n < 0\/0<=p.f+df*n/\p.s+ds*n < 0) (he:gY w E):
 Calls prog 305 #[yc p,shv dm df ds,.int .i64 n] w (dM w (.tuple #[yc ⟨⟨#[]⟩,0,0,0⟩,uJ (E 4)])):=by
 have HE:=Hq he;have hve:4 < w.heap.size:=aFO _ _ (he.var 4 Aaa);open anR in exact ajY
def Qf (l:List Pu) (key:ByteArray):List ByteArray:=(l.map (·.k)).take (place l key)++key::(l.map (·.k)).drop (place l key)
theorem acz (l:List Pu) (key:ByteArray):xZ (l.map (·.k)) (place l key) key=(Qf l key).map Value.string:=by
 unfold xZ Qf;simp
theorem Dg (l:List Pu) (key:ByteArray):(Qf l key).length=l.length+1:=by
 unfold Qf;have:=mh l key;simp;omega
theorem M8 {l:List Pu} {p:Pu} (h:found l p.k=false):(iY l p).map (·.k)=Qf l p.k:=by
 rw [yF h];unfold Qf;simp
theorem Ua (B mp mb n:Nat) (v:Value) (l:List Pu) (G:ByteArray->Pu) (key:ByteArray) (E:Nat->Addr) (w:World) (hp:l.Pairwise Og) (hl:l.length<=20) (hB:B<=w.heap.size) (h:PM w B mp mb n v (l.map (·.k)) G) (he:gY w E):
 Calls prog 306 #[.pointer (some ⟨mp,0,none⟩),.string key] w λe w'=>Below B w w'/\(∀k,k < w.heap.size->k≠mp->v.ownBlock≠some k->w'.heap[k]?=w.heap[k]?)/\
  ((found l key=true/\e= .returned .nilIface/\PM w' B mp mb n v (l.map (·.k)) G)\/
   (found l key=false/\l.length=20/\e= .returned (uJ (E 5)))\/
   (found l key=false/\l.length < 20/\e= .returned .nilIface/\∃v',PM w' B mp mb n v' (Qf l key) G)):=by
 have hrow:=h.row;rw [aFL] at hrow
 obtain⟨a,cap,rfl⟩:∃a cap,v= .slice a l.length cap:=by
  exact aiI
 have HBS:=Hq (ax9 B _ l key w hp hl hrow);have hmp:=Fo.lt_of_blk h.blk;have hmb:=h.map.lt;obtain⟨⟨m0,m1⟩,f0,f1⟩:=mH h.blk;have ve:=he.var 5 Aaa;have HH:=Hq h;have HR:=Hq hrow;clear h hrow he;cases hf:found l key
 .by_cases h20:l.length=20
  .have ayH:((l.length:Int) == 20)=true:=Aah
   have H20:=Hq h20;clear h20;open atI in exact aaJ
  .have ayH:((l.length:Int) == 20)=false:=Aah
   open atH in exact aaJ
 .open atF in exact aaJ
theorem IZ (p:Pu) (dm df ds n:Int) (E:Nat->Addr) (w:World) (hp:iB p=true) (h1:-1000000000<=dm*n/\dm*n<=1000000000) (h2:-1000000000<=df*n/\df*n<=1000000000) (h3:-1000000000<=ds*n/\ds*n<=1000000000) (hok:iB (eX p dm df ds n)=false) (he:gY w E):
 Calls prog 305 #[yc p,shv dm df ds,.int .i64 n] w λe w'=>∃i,(1<=i/\i < 6)/\e= .returned (.tuple #[yc ⟨⟨#[]⟩,0,0,0⟩,uJ (E i)])/\aH w w':=by
 by_cases hf:p.f+df*n < 0\/0<=p.f+df*n/\p.s+ds*n < 0
 .exact(Ea p dm df ds n E w hp h1 h2 h3 hf he).mono λe w' ⟨h,hb⟩=>⟨_,Aaa,h,hb⟩
 .exact(Cm p dm df ds n E w hp h1 h2 h3 Aaa Aaa hok he).mono λe w' ⟨h,hb⟩=>⟨_,Aaa,h,hb⟩
theorem Mr (B mp mb n0:Nat) (v:Value) (l:List Pu) (key:ByteArray) (dm df ds n:Int) (E:Nat->Addr) (w:World) (hkey:key.size<=1048576) (hp:iB (aD l key)=true) (h1:-1000000000<=dm*n/\dm*n<=1000000000) (h2:-1000000000<=df*n/\df*n<=1000000000) (h3:-1000000000<=ds*n/\ds*n<=1000000000) (h:PM w B mp mb n0 v (l.map (·.k)) (aD l)) (he:gY w E) (hok:iB (eX (aD l key) dm df ds n)=false):
 Calls prog 293 #[.pointer (some ⟨mp,0,none⟩),.string key,.int .i64 n,shv dm df ds] w λe w'=>∃i,(1<=i/\i < 6)/\e= .returned (uJ (E i))/\aH w w':=by
 have Oq:=Hq (λw1 (hb:aH w w1)=>Mk mp mb n0 v (aD l) key w1 hkey (h.below hb).blk (h.below hb).map);have HSH:=Hq (λw1 (hb:aH w w1)=>IZ (aD l key) dm df ds n E w1 hp h1 h2 h3 hok (he.below hb));clear h he hok hp h1 h2 h3;generalize aD l key=p at *;obtain⟨pk,pm,pf,ps⟩:=p;open aoV in exact awL
theorem P5 (B mp mb n0:Nat) (v:Value) (l:List Pu) (key:ByteArray) (dm df ds n:Int) (E:Nat->Addr) (w:World) (hB:B<=w.heap.size) (hkey:key.size<=1048576) (hn0:n0 < maxLen) (hl:l.length<=20) (hpw:l.Pairwise Og) (hp:iB (aD l key)=true) (h1:-1000000000<=dm*n/\dm*n<=1000000000) (h2:-1000000000<=df*n/\df*n<=1000000000) (h3:-1000000000<=ds*n/\ds*n<=1000000000) (h:PM w B mp mb n0 v (l.map (·.k)) (aD l)) (he:gY w E) (hok:iB (eX (aD l key) dm df ds n)=true):
 Calls prog 293 #[.pointer (some ⟨mp,0,none⟩),.string key,.int .i64 n,shv dm df ds] w λe w'=>Below B w w'/\
  ((found l key=false/\l.length=20/\e= .returned (uJ (E 5)))\/
   ((found l key=true\/l.length < 20)/\e= .returned .nilIface/\∃v',PM w' B mp mb (n0+1) v' ((iY l (eX (aD l key) dm df ds n)).map (·.k)) (upd (aD l) (eX (aD l key) dm df ds n)))):=by
 have hpos:iB (eX (aD l key) dm df ds n)=true:=hok
 have hff:0<=(aD l key).f+df*n/\0<=(aD l key).s+ds*n:=by
  unfold iB at hpos;simp only[aES] at hpos;have b2:0<=(aD l key).f+df*n/\(aD l key).f+df*n<=1000000000:=aE5 hpos.1.1.2;have b3:0<=(aD l key).s+ds*n/\(aD l key).s+ds*n<=1000000000:=aE5 hpos.1.2;exact⟨b2.1,b3.1⟩
 have Oq:=Hq (λw1 (hb:aH w w1)=>Mk mp mb n0 v (aD l) key w1 hkey (h.below hb).blk (h.below hb).map);have HSH:=Hq (λw1 (hb:aH w w1)=>Mw (aD l key) dm df ds n w1 hp h1 h2 h3 hff.1 hff.2 hok);have ad5:=Hq (λw1 (hb:aH w w1)=>Ua B mp mb n0 v l (aD l) key E w1 hpw hl (aEP hB hb.size) (h.below hb) (he.below hb));have HPM:=Hq (λw1 (hb:aH w w1)=>h.below hb);have hpk:(eX (aD l key) dm df ds n).k=key:=qp l key;have xS:=Hq (λhf=>(wQ (l:=l) (p:=eX (aD l key) dm df ds n) hf).symm);have HKN:=Hq (λhf=>(M8 (l:=l) (p:=eX (aD l key) dm df ds n) hf).symm);rw [hpk] at xS HKN;have hkk:(aD l key).k=key:=qp l key;clear h he hok hp h1 h2 h3 hpos hff hpw;unfold eX at *;generalize iY l ⟨(aD l key).k,(aD l key).m+dm*n,(aD l key).f+df*n,(aD l key).s+ds*n⟩=PL at *;generalize hG:aD l=G at *;generalize G key=p at *;obtain⟨pk,pm,pf,ps⟩:=p;dsimp only at *;subst hkk;generalize pm+dm*n=qm at *;generalize pf+df*n=qf at *;generalize ps+ds*n=qs at *;clear hG hpk;open aoU in exact awL
namespace Mth
theorem adP {l:List Pu} (hp:l.Pairwise Og) (k:Nat) (hk:k < l.length):upd (aD (l.take k)) l[k]=aD (l.take (k+1)):=by
 funext key
 have hsub:(l.take (k+1)).Pairwise Og:=hp.sublist (List.take_sublist _ _);unfold upd;by_cases e:key=l[k].k
 .rw [aE7 e,e];exact(rM hsub (List.mem_take_iff_getElem.2 ⟨k,Aaa,rfl⟩)).symm
 .rw [aEX e];unfold aD;rw [aEV hk,List.find?_append]
  have:[l[k]].find? (λp=>p.k.toList == key.toList)=none:=by
   rw [List.find?_eq_none];intro q hq;rw [aE3] at hq;subst hq;simp only[beq_iff_eq];exact λe'=>e (toList_inj e').symm
  rw [this];simp
end Mth
theorem afr:(Tryz.prog.info? 9).map (λi=>(i.zero,i.size,i.bytes))=some (some (.string ⟨#[]⟩),1,16):=Aab
theorem Mq (E:Nat->Addr) (w:World) (hl:l.length<=1048600) (ha:aG w a l) (he:gY w E) (hno:jm l=false):
 Calls Tryz.prog 292 #[.slice a l.length cap] w (dM w (.tuple #[.pointer none,uJ (E 3)])):=by
 have mW:=Hq (uP a cap l w hl ha);have HE:=Hq he;clear ha he;go_in
 go_wp2_with fail;refine mW.mono ?_;rintro e w1 ⟨rfl,hb1⟩;rw [hno];have ve:=(HE.below hb1).var 3 Aaa;have HB:=Hq hb1;clear hb1 mW;go_wp2_with fail;go_quiet (fail);go_wp2_with fail;go_ret2
 exact⟨rfl,HB.trans ⟨rfl,rfl,rfl,aEM _,λ_ _=>rfl⟩⟩
theorem IK (w:World) (ha:aG w a l) (hks:∀p∈l,p.k.size<=1048576) (hok:jm l=true):
 Calls Tryz.prog 292 #[.slice a l.length cap] w λe w'=>∃mp mb v,e= .returned (.tuple #[.pointer (some ⟨mp,0,none⟩),.nilIface])/\PM w' w.heap.size mp mb l.length v (l.map (·.k)) (aD l)/\aH w w':=by
 obtain⟨hpu,hpw,hl⟩:=(jW l).1 hok;have H6:=Hq hpw;have mW:=Hq (uP a cap l w Aaa ha);have HA:=Hq ha;obtain⟨i0,hi,hz0,hz1,hz2⟩:=aFm afr;have Sr:=Hq hks;have hmm:= @run_makeMap Tryz.prog;clear ha hpw hpu hks;go_in
 go_wp2_with fail;refine mW.mono ?_;rintro e w1 ⟨rfl,hb1⟩;rw [hok];have HB1:=Hq hb1;have hw1:=hb1.size;clear hb1 mW hok;go_wp2_with fail;go_loopw [16] (λi wr=>∃(k:Nat) (aa:Option Addr) (cc:Nat),k<=l.length/\i= .int .i64 k/\PM wr w.heap.size (w1.heap.size+1) w1.heap.size k (.slice aa k cc) ((l.take k).map (·.k)) (aD (l.take k))/\aH w wr) (λi _=>l.length - (intOf i).toNat)
 case atStart=>
  refine⟨0,none,0,aE1 _,rfl,⟨?_,?_,?_,Aaa,Aaa⟩,(HB1.alloc Aaa _).alloc Aah _⟩
  .have:=aEK (w1.alloc (.map #[] 0)) (.cells #[.slice none 0 0,.map (some w1.heap.size)] 356);rwa [show(w1.alloc (Obj.map #[] 0)).heap.size=w1.heap.size+1 by simp] at this
  .exact World.ownsRow_nil _ _ _ _
  .exact(iG.made w1).kept (aEZ _ _ _ Aac)
 case round=>
  obtain⟨k,aa,cc,hk,rfl,Ih,hbel⟩:=hrel;have HP:=Hq Ih;have aY:=Hq hbel;have hwr:=hbel.size;clear Ih hbel;by_cases hlt:k < l.length
  .obtain⟨g,off,rfl,hgw,c0,c1,c2,c3⟩:=aG.four (GR.At.below HA aY) k hlt;have HUP:=Hq (adP H6 k hlt);have OI:=Hq (aEV hlt);have hkk:=ah Sr l[k] (aE2 hlt);generalize l[k]=pu at *;obtain⟨pk,pm,pf,ps⟩:=pu;dsimp only at c0 c1 c2 c3 hkk;go_upto_region 7 with fail;refine Fo.wp_at (λV hV=>?_);have hbV:aH wr V:=by rw [hV];exact dP wr _
   open auI in exact ag3
  .open amX in exact uz
theorem acn (B mp mb n:Nat) (v:Value) (l:List Pu) (G:ByteArray->Pu) (w:World) (hl:l.length<=20) (hG:∀p∈l,G p.k=p) (hks:∀p∈l,p.k.size<=1048576) (h:PM w B mp mb n v (l.map (·.k)) G):
 Calls Tryz.prog 294 #[.pointer (some ⟨mp,0,none⟩)] w λe w'=>e= .returned (.slice (some ⟨w.heap.size,0,none⟩) l.length l.length)/\tC w' w.heap.size l/\aH w w':=by
 have hrow:=h.row;rw [aFL] at hrow
 obtain⟨a,cap,rfl⟩:∃a cap,v= .slice a l.length cap:=by
  exact aiI
 have hmk:=Dj l.length Aaa;have HH:=Hq h;have HG:=Hq hG;have Sr:=Hq hks;have HR:=Hq hrow;obtain⟨⟨m0,m1⟩,_⟩:=mH h.blk;have hmp:=Fo.lt_of_blk h.blk;clear h hG hks hrow;go_in
 go_wp2_with fail;go_loopw [17] (λi wr=>∃k:Nat,k<=l.length/\i= .int .i64 k/\tC wr w.heap.size (l.take k++List.replicate (l.length - k) ⟨ByteArray.empty,0,0,0⟩)/\aH w wr) (λi _=>l.length - (intOf i).toNat)
 case atStart=>exact aio
 case round=>
  open aqk in exact SN
end Go.Proofs.YtbolgdleijjgfaaGreatDoor
