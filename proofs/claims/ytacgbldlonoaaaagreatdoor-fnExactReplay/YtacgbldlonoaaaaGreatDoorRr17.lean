/- Parts. -/
import Derived.Test.YtacgbldlonoaaaaGreatDoorRr16
namespace Go.Proofs.YtacgbldlonoaaaaGreatDoor
set_option maxHeartbeats 4000000
set_option maxRecDepth 100000
open Go.RowKit
open Mth
theorem lI:∀(vs:List Value) {w:World} {g o:Nat} {xs:List Value} {t:TypeId},w.heap[g]?=some (.cells xs.toArray t (0,0))->(w.setCells g o vs).heap[g]?=some (.cells (GR.setRun xs o vs).toArray t (0,0)):=by
 intro vs;induction vs with
 |nil=>intro w g o xs t h;exact h
 |cons v vs ih=>
  intro w g o xs t h
  refine ih (xs:=xs.set o v) ?_
  have:=Fo.blk_set h o v
  simpa using this
theorem oL {g g':Nat} (hne:g'≠g):∀(vs:List Value) (w:World) (o:Nat),(w.setCells g o vs).heap[g']?=w.heap[g']?:=by
 intro vs;induction vs with
 |nil=>intro w o;rfl
 |cons v vs ih=>intro w o;exact(ih (w.setCell ⟨g,o,none⟩ v) (o+1)).trans (Below.heap_setCell _ _ _ _ hne)
theorem setCells_size {g:Nat}:∀(vs:List Value) (w:World) (o:Nat),(w.setCells g o vs).heap.size=w.heap.size:=by
 intro vs;induction vs with
 |nil=>intro w o;rfl
 |cons v vs ih=>intro w o;exact(ih (w.setCell ⟨g,o,none⟩ v) (o+1)).trans (Fo.setCell_size w _ v)
theorem gL {g:Nat}:∀(vs:List Value) (w:World) (o:Nat),(w.setCells g o vs).os=w.os/\(w.setCells g o vs).tape=w.tape/\(w.setCells g o vs).output=w.output:=by
 intro vs;induction vs with
 |nil=>intro w o;exact⟨rfl,rfl,rfl⟩
 |cons v vs ih=>intro w o;exact ih (w.setCell ⟨g,o,none⟩ v) (o+1)
theorem oJ (w:World) (g o:Nat) (vs:List Value):w.grownBy (w.setCells g o vs) (some g):=
 ⟨(gL vs w o).1,(gL vs w o).2.1,(gL vs w o).2.2,by rw [setCells_size];exact Nat.le_refl _,λk _ hne=>oL (λe=>hne Aan) vs w o⟩
theorem oN (a m b vs:List Value) (h:vs.length=m.length):GR.setRun (a++(m++b)) a.length vs=a++(vs++b):=by
 have:=GR.setRun_append_right a vs 0 (m++b);rw [Nat.add_zero] at this;rw [this,GR.setRun_head vs m b h]
def vL (ks:List ByteArray) (i:Nat) (key:ByteArray):List Value:=(ks.map Value.string).take i++(.string key::(ks.map Value.string).drop i)
theorem mZ (ks:List ByteArray) (i:Nat) (key:ByteArray) (hi:i<=ks.length):(vL ks i key).length=ks.length+1:=by
 unfold vL;simp;omega
theorem yF (ks:List ByteArray):∀v∈ks.map Value.string,v.oneCell'=true:=by
 intro v hv;obtain⟨k,_,rfl⟩:=List.mem_map.1 hv;rfl
theorem atc (B:Nat) (v:Value) (l:List Pu) (key:ByteArray) (w:World) (hp:l.Pairwise JB) (hl:l.length<=20) (h:w.ownsRow B 9 1 v l.length ((l.map (·.k)).map Value.string)):
 Calls Tryz.prog 270 #[v,.string key] w λe w'=>e= .returned (.tuple #[.int .i64 (place l key:Nat),.bool (found l key)])/\∃q,w'=w.drewN q:=by
 by_cases h0:l.length=0
 .have hl0:l=[]:=List.eq_nil_of_length_eq_zero h0;subst hl0
  have hv:∃a c,v= .slice a 0 c:=by
   rcases h.2 with⟨rfl,_⟩|⟨g,cap,cur,rfl,_⟩
   .exact⟨none,0,rfl⟩
   .exact⟨_,_,rfl⟩
  obtain⟨a,c,rfl⟩:=hv;exact(Any2.slices_BinarySearch_string_empty Dy a c key w).mono λe w' ⟨he,hw⟩=>⟨by rw [he];rfl,0,hw⟩
 .obtain⟨g,cap,rfl,_,_⟩:=h.form Aaa
  have hb:=Any2.slices_BinarySearch_string Dy g 0 l.length cap (uz l key) key w Aaa (λj hj=>by
   have hc:=h.cellAt j Aaa
   rw [Nat.zero_add,hc]
   unfold uz
   simp[hj])
  rw [XE hp key,LH l key] at hb;exact hb
theorem Jy {w:World} {B g cap:Nat} {ks:List ByteArray} {i:Nat} {key:ByteArray} {bs:List Value} (hi:i<=ks.length) (hg:B<=g) (hcap:ks.length+1<=cap) (hcm:cap<=maxLen) (hlen:(vL ks i key++bs).length=cap)
 (h:w.heap[g]?=some (.cells (vL ks i key++bs).toArray 9 (0,0))):w.ownsRow B 9 1 (.slice (some ⟨g,0,none⟩) (ks.length+1) cap) (ks.length+1) (vL ks i key):=by
 have hl:=mZ ks i key hi;refine⟨Aaa,.inr ⟨g,cap,_,rfl,hg,h,hcap,hcm,by rw [List.size_toArray];omega,?_⟩⟩;rw [List.toList_toArray,Nat.mul_one,<-hl,List.take_left'];rfl
theorem sV (n:Nat):(Builtin.zeroCells (Value.string ⟨#[]⟩).cells n).toList.length=n:=by
 rw [Array.length_toList,size_zeroCells];simp[Value.cells]
theorem zN (w:World) (o:Obj) (row:Option Nat):w.grownBy (w.drew.alloc o) row:=
 ⟨rfl,rfl,rfl,Aac,λk hk _=>Below.heap_alloc w.drew _ _ hk⟩
theorem M0 (ks:List ByteArray) (key:ByteArray):vL ks ks.length key=ks.map Value.string++[.string key]:=by
 unfold vL;rw [List.take_of_length_le Aac,List.drop_of_length_le Aac]
theorem Dv (B:Nat) (base:Option Addr) (c:Nat) (ks:List ByteArray) (key:ByteArray) (vb:Nat) (w:World) (hn:ks.length<=20) (hB:B<=w.heap.size) (hnc:ks.length<=c) (hroom:c < ks.length+1) (hnil:base=none->ks.length=0)
 (hcs:∀a,base=some a->∀(j:Nat) (v:Value),(ks.map Value.string)[j]?=some v->w.cell? (a.add j)=some v)
 (hvs:∀(j:Nat) (u:Value),[Value.string key][j]?=some u->w.cell? ⟨vb,0+j,none⟩=some u) (h1v:∀u∈[Value.string key],u.oneCell'=true) (row:Option Nat):
 Calls Tryz.prog 271 #[.slice base ks.length c,.int .i64 (ks.length:Nat),.slice (some ⟨vb,0,none⟩) 1 1] w λe w'=>∃v',e= .returned v'/\w'.ownsRow B 9 1 v' (ks.length+1) (vL ks ks.length key)/\w.grownBy w' row:=by
 refine(Any2.slices_Insert_string_end_grow rY base ks.length c vb 0 1 1 (ks.map Value.string) [.string key] w Aaa hnc hroom Aaa Aac rfl hnil hcs hvs h1v).mono λe w' ⟨he,hw⟩=>?_
 have hge:=grownCap_ge w (ks.length+1) c (tJ.t 9);have hle:=grownCap_le_maxLen w (ks.length+1) c (tJ.t 9) Aah;refine⟨_,he,?_,by rw [hw];exact zN w _ row⟩;generalize grownCap w (ks.length+1) c (tJ.t 9)=cap at *;refine Jy (w:=w') (bs:=(Builtin.zeroCells (Value.string ⟨#[]⟩).cells (cap - (ks.length+1))).toList) (Nat.le_refl _) hB hge hle ?_ ?_
 .rw [List.length_append,sV,mZ _ _ _ (Nat.le_refl _)];omega
 .rw [hw];have:=heap_alloc_new w.drew (.cells ((ks.map Value.string++[Value.string key]).toArray++Builtin.zeroCells (Value.string ⟨#[]⟩).cells (cap - (ks.length+1))) (tJ.t 9));refine Eq.trans this ?_;rw [M0]
  have e:(ks.map Value.string++[Value.string key]).toArray++Builtin.zeroCells (Value.string ⟨#[]⟩).cells (cap - (ks.length+1))=(ks.map Value.string++[Value.string key]++(Builtin.zeroCells (Value.string ⟨#[]⟩).cells (cap - (ks.length+1))).toList).toArray:=by
   apply Array.toList_inj.1
   simp
  rw [e];rfl
theorem agk (B:Nat) (v:Value) (ks:List ByteArray) (i:Nat) (key:ByteArray) (vb:Nat) (w:World) (hi:i<=ks.length) (hn:ks.length<=20) (hB:B<=w.heap.size) (h:w.ownsRow B 9 1 v ks.length (ks.map Value.string))
 (hv:w.heap[vb]?=some (.cells #[.string key] 9 (0,0))) (hvb:v.ownBlock≠some vb):
 Calls Tryz.prog 271 #[v,.int .i64 (i:Nat),.slice (some ⟨vb,0,none⟩) 1 1] w λe w'=>∃v',e= .returned v'/\w'.ownsRow B 9 1 v' (ks.length+1) (vL ks i key)/\w.grownBy w' v.ownBlock:=by
 have hvs:∀(j:Nat) (u:Value),[Value.string key][j]?=some u->w.cell? ⟨vb,0+j,none⟩=some u:=λj u hu=>by
  rw [cell_of_row w vb _ _ 9 (0,0) hv,Nat.zero_add]
  simpa using hu
 have h1v:∀u∈[Value.string key],u.oneCell'=true:=λu hu=>by rw [List.mem_singleton.1 hu];rfl
 have hfree:∀j,w.frozen? ⟨vb,j,none⟩=false:=λj=>by unfold World.frozen?;rw [hv];simp
 have hsa:w.shape? vb=some (9,1):=by unfold World.shape?;rw [hv];rfl
 rcases h.2 with⟨rfl,h0⟩|⟨g,cap,cur,rfl,hg,hblk,hnc,hcm,hcs,htk⟩
 .have hi0:i=ks.length:=Aaa
  subst hi0;have:=Dv B none 0 ks key vb w hn hB Aaa Aaa (λ_=>h0) (λa ha=>by cases ha) hvs h1v none;rw [h0] at this ⊢;exact this
 have awT:vb≠g:=λe=>hvb (by rw [e];rfl)
 obtain⟨sp,hcur⟩:∃sp,cur.toList=ks.map Value.string++sp:=⟨cur.toList.drop ks.length,by
  rw [Nat.mul_one] at htk
  rw [<-htk,List.take_append_drop]⟩
 have hblk2:w.heap[g]?=some (.cells (ks.map Value.string++sp).toArray 9 (0,0)):=by rw [hblk,<-hcur]
 have Yo:ks.length+sp.length=cap:=by
  have:=congrArg List.length hcur;rw [Array.length_toList,hcs] at this;simp at this;omega
 have hcell:∀j,w.cell? ⟨g,j,none⟩=(ks.map Value.string++sp)[j]?:=λj=>by
  rw [cell_of_row w g j _ 9 (0,0) hblk2]
  simp
 have hfz:∀j,w.frozen? ⟨g,j,none⟩=false:=λj=>by unfold World.frozen?;rw [hblk2];simp
 have afZ:∀(j:Nat) (u:Value),(ks.map Value.string)[j]?=some u->w.cell? ⟨g,0+j,none⟩=some u:=λj u hu=>by
  rw [Nat.zero_add,hcell,List.getElem?_append_left (List.getElem?_eq_some_iff.1 hu).1]
  exact hu
 rcases Nat.lt_or_ge i ks.length with hlt|hge
 .obtain⟨ra,hra⟩:∃ra,ra=(ks.map Value.string).take i:=⟨_,rfl⟩;obtain⟨rb,hrb⟩:∃rb,rb=(ks.map Value.string).drop i:=⟨_,rfl⟩;have hsplit:ks.map Value.string=ra++rb:=by rw [hra,hrb,List.take_append_drop]
  have atz:ra.length=i:=by rw [hra];simp;omega
  have axH:rb.length=ks.length - i:=by rw [hrb];simp
  have hins:vL ks i key=ra++(.string key::rb):=by unfold vL;rw [<-hra,<-hrb]
  by_cases hroom:ks.length+1<=cap
  .have hsb:w.shape? g=some (9,cap):=by unfold World.shape?;rw [hblk2];simp;omega
   refine(Any2.slices_Insert_string_shift rY g 0 ks.length cap i vb 0 1 1 (ks.map Value.string) [.string key] w hlt Aaa hroom Acf awT Aac rfl afZ
    (λj hj=>by rw [Nat.zero_add,hcell];simp;omega) (λj _=>hfz _) hvs (yF ks) h1v 9 9 1 cap hsa hsb Aaa (hfree _) (hfree _)).mono λe w' ⟨he,hw⟩=>?_
   obtain⟨s0,sp',hsp⟩:∃s0 sp',sp=s0::sp':=by
    exact aew
   obtain⟨x0,A,hxA,hAl⟩:∃x0 A,rb++[s0]=x0::A/\A.length=rb.length:=by
    cases hb:rb++[s0] with
    |nil=>simp at hb
    |cons x0 A=>
     refine⟨x0,A,rfl,?_⟩
     have:=congrArg List.length hb
     simp at this
     omega
   have hxs:ks.map Value.string++sp=(ra++[x0])++(A++sp'):=by
    rw [hsplit,hsp];have:ra++rb++s0::sp'=ra++((rb++[s0])++sp'):=Aac
    rw [this,hxA];simp
   have e1:GR.setRun (ks.map Value.string++sp) (0+(i+1)) rb=(ra++[x0])++(rb++sp'):=by
    rw [hxs];have:=oN (ra++[x0]) A sp' rb hAl.symm;rw [show(ra++[x0]).length=0+(i+1) by simp;omega] at this;exact this
   have e2:GR.setRun ((ra++[x0])++(rb++sp')) (0+i) [.string key]=vL ks i key++sp':=by
    have:=oN ra [x0] (rb++sp') [.string key] rfl;rw [atz] at this;rw [Nat.zero_add,hins];have e:(ra++[x0])++(rb++sp')=ra++([x0]++(rb++sp')):=Aac
    rw [e,this];simp
   refine⟨_,he,Jy (bs:=sp') hi hg hroom hcm ?_ ?_,?_⟩
   .rw [List.length_append,mZ ks i key hi];rw [hsp] at Yo;simp at Yo;omega
   .rw [hw,<-hrb];have h1:=lI rb (w:=w.drew) (o:=0+(i+1)) hblk2;rw [e1] at h1;have h2:=lI [.string key] (o:=0+i) h1;rw [e2] at h2;exact h2
   .rw [hw];have h1:=oJ w.drew g (0+(i+1)) ((ks.map Value.string).drop i);have h2:=oJ (w.drew.setCells g (0+(i+1)) ((ks.map Value.string).drop i)) g (0+i) [.string key];exact⟨h2.os.trans h1.os,h2.tape.trans h1.tape,h2.output.trans h1.output,Nat.le_trans h1.size h2.size,λk hk hne=>(h2.block k (Nat.lt_of_lt_of_le hk h1.size) hne).trans (h1.block k hk hne)⟩
  .have aw5:cap=ks.length:=Aaa
   refine(Any2.slices_Insert_string_grow rY g 0 ks.length cap i vb 0 1 1 (ks.map Value.string) [.string key] w hlt Aaa hnc Aaa Aaa Aac rfl afZ hvs (yF ks) h1v).mono λe w' ⟨he,hw⟩=>?_
   have hge:=grownCap_ge w (ks.length+1) cap (tJ.t 9);have hle:=grownCap_le_maxLen w (ks.length+1) cap (tJ.t 9) Aah;generalize grownCap w (ks.length+1) cap (tJ.t 9)=cap' at *;obtain⟨z1,hz1⟩:∃z1,z1=(Builtin.zeroCells (Value.string ⟨#[]⟩).cells (ks.length+1 - i)).toList:=⟨_,rfl⟩;obtain⟨z2,hz2⟩:∃z2,z2=(Builtin.zeroCells (Value.string ⟨#[]⟩).cells (cap' - (ks.length+1))).toList:=⟨_,rfl⟩;have aa7:z1.length=ks.length+1 - i:=by rw [hz1,sV]
   have BD:z2.length=cap' - (ks.length+1):=by rw [hz2,sV]
   obtain⟨x0,A,hxA⟩:∃x0 A,z1=x0::A:=by
    cases z1 with
    |nil=>simp at aa7;omega
    |cons x0 A=>exact⟨x0,A,rfl⟩
   have hAl:A.length=rb.length:=by rw [hxA] at aa7;simp at aa7;omega
   have hall:(w.alloc (.cells (((ks.map Value.string).take i).toArray++Builtin.zeroCells (Value.string ⟨#[]⟩).cells (ks.length+1 - i)++Builtin.zeroCells (Value.string ⟨#[]⟩).cells (cap' - (ks.length+1))) (tJ.t 9))).heap[w.heap.size]?=some (.cells (ra++([x0]++(A++z2))).toArray 9 (0,0)):=by
    refine Eq.trans (heap_alloc_new w _) ?_
    have e:((ks.map Value.string).take i).toArray++Builtin.zeroCells (Value.string ⟨#[]⟩).cells (ks.length+1 - i)++Builtin.zeroCells (Value.string ⟨#[]⟩).cells (cap' - (ks.length+1))=(ra++([x0]++(A++z2))).toArray:=by
     apply Array.toList_inj.1
     rw [Array.toList_append,Array.toList_append,<-hz1,<-hz2,hxA,hra];simp
    rw [e];rfl
   have e1:GR.setRun (ra++([x0]++(A++z2))) i [.string key]=(ra++[.string key])++(A++z2):=by
    have:=oN ra [x0] (A++z2) [.string key] rfl;rw [atz] at this;rw [this];simp
   have e2:GR.setRun ((ra++[.string key])++(A++z2)) (i+1) rb=vL ks i key++z2:=by
    have:=oN (ra++[.string key]) A z2 rb hAl.symm;rw [show(ra++[Value.string key]).length=i+1 by simp;omega] at this;rw [this,hins];simp
   refine⟨_,he,Jy (bs:=z2) hi hB hge hle ?_ ?_,?_⟩
   .rw [List.length_append,mZ ks i key hi];omega
   .rw [hw,<-hrb];have h1:=lI [.string key] (w:=(w.alloc (.cells (((ks.map Value.string).take i).toArray++Builtin.zeroCells (Value.string ⟨#[]⟩).cells (ks.length+1 - i)++Builtin.zeroCells (Value.string ⟨#[]⟩).cells (cap' - (ks.length+1))) (tJ.t 9))).drew) (o:=i) hall;rw [e1] at h1;have h2:=lI rb (w:=((w.alloc (.cells (((ks.map Value.string).take i).toArray++Builtin.zeroCells (Value.string ⟨#[]⟩).cells (ks.length+1 - i)++Builtin.zeroCells (Value.string ⟨#[]⟩).cells (cap' - (ks.length+1))) (tJ.t 9))).drew.setCells w.heap.size i [.string key]).drew) (o:=i+1) h1;rw [e2] at h2;exact h2
   .rw [hw];refine⟨?_,?_,?_,?_,?_⟩
    .rw [(gL _ _ _).1];exact(gL _ _ _).1
    .rw [(gL _ _ _).2.1];exact(gL _ _ _).2.1
    .rw [(gL _ _ _).2.2];exact(gL _ _ _).2.2
    .rw [setCells_size];refine Nat.le_trans ?_ (Nat.le_of_eq (setCells_size _ _ _).symm);show w.heap.size<=(w.alloc _).heap.size
     simp
    .intro k hk _;rw [oL Aaa];refine(oL (g:=w.heap.size) (g':=k) Aaa _ _ _).trans ?_;exact Below.heap_alloc w _ _ hk
 .have hie:i=ks.length:=Aaa
  subst hie;by_cases hroom:ks.length+1<=cap
  .refine(Any2.slices_Insert_string_end_room rY g 0 ks.length cap vb 0 1 1 [.string key] w Aaa hroom Acf rfl
    (λj hj=>by rw [Nat.zero_add,hcell];simp;omega) (λj _=>hfz _) hvs h1v).mono λe w' ⟨he,hw⟩=>?_
   obtain⟨s0,sp',hsp⟩:∃s0 sp',sp=s0::sp':=by
    exact aew
   have e1:GR.setRun (ks.map Value.string++sp) (0+ks.length) [.string key]=vL ks ks.length key++sp':=by
    have:=oN (ks.map Value.string) [s0] sp' [.string key] rfl;rw [List.length_map] at this;rw [Nat.zero_add,hsp,M0];have e:ks.map Value.string++s0::sp'=ks.map Value.string++([s0]++sp'):=Aac
    rw [e,this];simp
   refine⟨_,he,Jy (bs:=sp') (Nat.le_refl _) hg hroom hcm ?_ ?_,by rw [hw];exact oJ w g (0+ks.length) [.string key]⟩
   .rw [List.length_append,mZ ks _ key (Nat.le_refl _)];rw [hsp] at Yo;simp at Yo;omega
   .rw [hw];have h1:=lI [.string key] (w:=w) (o:=0+ks.length) hblk2;rw [e1] at h1;exact h1
  .exact Dv B (some ⟨g,0,none⟩) cap ks key vb w hn hB hnc Aaa (λha=>by cases ha) (λa ha j u hu=>by
    injection ha with ha
    subst ha
    have e:(⟨g,0,none⟩:Addr).add j=⟨g,0+j,none⟩:=by unfold Addr.add;split<;>simp_all
    rw [e]
    exact afZ j u hu) hvs h1v (some g)
open Go.RowKit Go.Maps
structure PM (w:World) (B mp mb n:Nat) (v:Value) (ks:List ByteArray) (G:ByteArray->Pu):Prop where
 blk:w.heap[mp]?=some (.cells #[v,.map (some mb)] 306 (0,0))
 row:w.ownsRow B 9 1 v ks.length (ks.map Value.string)
 map:iq w mb n G
 lop:B<=mp
 lom:B<=mb
theorem own_ne {w:World} {B g n:Nat} {v:Value} {xs:List Value} {t:TypeId} {cs:Array Value} {fr:Nat×Nat} (h:w.ownsRow B 9 1 v n xs) (hg:w.heap[g]?=some (.cells cs t fr)) (ht:t≠9):v.ownBlock≠some g:=by
 rcases h.2 with⟨rfl,_⟩|⟨g',cap,cur,rfl,_,hb,_⟩
 .intro e;cases e
 .intro e;injection e with e
  have e':g'=g:=e;subst e';rw [hg] at hb;injection hb with hb
  injection hb with h1 h2 h3
  exact ht h2
theorem wN {w:World} {B g n:Nat} {v:Value} {xs:List Value} {es:Array MapEntry} {clock:Nat} (h:w.ownsRow B 9 1 v n xs) (hg:w.heap[g]?=some (.map es clock)):v.ownBlock≠some g:=by
 rcases h.2 with⟨rfl,_⟩|⟨g',cap,cur,rfl,_,hb,_⟩
 .intro e;cases e
 .intro e;injection e with e
  have e':g'=g:=e;subst e';rw [hg] at hb;cases hb
theorem iq.blk {w:World} {mb n:Nat} {G:ByteArray->Pu} (h:iq w mb n G):∃es clock,w.heap[mb]?=some (.map es clock):=by
 obtain⟨D,⟨es,clock,h1,_⟩,_⟩:=h;exact⟨es,clock,h1⟩
theorem PM.mpmb {w:World} {B mp mb n:Nat} {v:Value} {ks:List ByteArray} {G:ByteArray->Pu} (h:PM w B mp mb n v ks G):mp≠mb:=by
 obtain⟨es,clock,hb⟩:=h.map.blk;intro e;have:=h.blk;rw [e,hb] at this;cases this
theorem PM.below {w w':World} {B mp mb n:Nat} {v:Value} {ks:List ByteArray} {G:ByteArray->Pu} (h:PM w B mp mb n v ks G) (hb:aX w w'):PM w' B mp mb n v ks G:=by
 have hg:w.grownBy w' none:=⟨hb.os,hb.tape,hb.output,hb.size,λk hk _=>hb.block k hk⟩;refine⟨?_,?_,?_,h.lop,h.lom⟩
 .rw [hb.block _ (Fo.lt_of_blk h.blk)];exact h.blk
 .refine h.row.kept hg ?_;exact aex
 .exact h.map.kept (hb.block _ h.map.lt)
theorem PM.drewN {w:World} {B mp mb n q:Nat} {v:Value} {ks:List ByteArray} {G:ByteArray->Pu} (h:PM w B mp mb n v ks G):PM (w.drewN q) B mp mb n v ks G:=⟨h.blk,h.row,h.map,h.lop,h.lom⟩
theorem PM.turned {w w':World} {B mp mb n n':Nat} {v:Value} {ks:List ByteArray} {G G':ByteArray->Pu} (h:PM w B mp mb n v ks G) (hk:Keeps mb w w') (hm:iq w' mb n' G'):PM w' B mp mb n' v ks G':=by
 have hg:w.grownBy w' (some mb):=⟨hk.os,hk.tape,hk.output,hk.size,λk hl hne=>hk.block k hl (λe=>hne Aan)⟩;obtain⟨es,clock,hb⟩:=h.map.blk;refine⟨?_,?_,hm,h.lop,h.lom⟩
 .rw [hk.block _ (Fo.lt_of_blk h.blk) h.mpmb];exact h.blk
 .refine h.row.kept hg (.inr (wN h.row hb))
theorem AQ {w w':World} {B g:Nat} (hk:Keeps g w w') (hg:B<=g) (hB:B<=w.heap.size):Below B w w':=⟨hk.os,hk.tape,hk.output,hk.size,λk hl=>hk.block k Aaa Aaa⟩
abbrev shv (dm df ds:Int):Value:= .agg #[.int .i64 dm,.int .i64 df,.int .i64 ds]
theorem yQ {w w1:World} {A B C:Obj} (hb:Below (((w.alloc A).alloc B).alloc C).heap.size (((w.alloc A).alloc B).alloc C) w1):
 w1.heap[w.heap.size]?=some A/\w1.heap[w.heap.size+1+1]?=some C/\aX w w1:=by
 have hs:(((w.alloc A).alloc B).alloc C).heap.size=w.heap.size+1+1+1:=Aac
 refine⟨?_,?_,((((Below.refl _ _).alloc (Nat.le_refl _) _).alloc Aac _).alloc Aag _).trans (hb.mono Aaa)⟩
 .rw [hb.block _ Aaa,Below.heap_alloc _ _ _ Aag,Below.heap_alloc _ _ _ Aac];exact heap_alloc_new w A
 .rw [hb.block _ Aaa];have h:=heap_alloc_new ((w.alloc A).alloc B) C;rwa [show((w.alloc A).alloc B).heap.size=w.heap.size+1+1 by simp] at h
theorem Jv (p:Pu) (dm df ds n:Int) (w:World) (hp:gJ p=true) (h1: -1000000000<=dm*n/\dm*n<=1000000000) (h2: -1000000000<=df*n/\df*n<=1000000000) (h3: -1000000000<=ds*n/\ds*n<=1000000000)
 (hf:0<=p.f+df*n) (hs:0<=p.s+ds*n) (hok:gJ (eD p dm df ds n)=true):
 Calls Tryz.prog 261 #[zi p,shv dm df ds,.int .i64 n] w (eP w (.tuple #[zi (eD p dm df ds n),.nilIface])):=by
 have HO:=Hq (λw1=>og (eD p dm df ds n) true w1 hok);open ajo in exact afl
theorem zV (p:Pu) (dm df ds n:Int) (E:Nat->Addr) (w:World) (hp:gJ p=true) (h1: -1000000000<=dm*n/\dm*n<=1000000000) (h2: -1000000000<=df*n/\df*n<=1000000000) (h3: -1000000000<=ds*n/\ds*n<=1000000000)
 (hf:0<=p.f+df*n) (hs:0<=p.s+ds*n) (hok:gJ (eD p dm df ds n)=false) (he:iG w E):
 Calls Tryz.prog 261 #[zi p,shv dm df ds,.int .i64 n] w (eP w (.tuple #[zi ⟨⟨#[]⟩,0,0,0⟩,tV (E 4)])):=by
 have HO:=Hq (λw1=>og (eD p dm df ds n) false w1 hok);have HE:=Hq he;open ajn in exact afl
theorem BG (p:Pu) (dm df ds n:Int) (E:Nat->Addr) (w:World) (hp:gJ p=true) (h1: -1000000000<=dm*n/\dm*n<=1000000000) (h2: -1000000000<=df*n/\df*n<=1000000000) (h3: -1000000000<=ds*n/\ds*n<=1000000000)
 (hf:p.f+df*n < 0\/0<=p.f+df*n/\p.s+ds*n < 0) (he:iG w E):
 Calls Tryz.prog 261 #[zi p,shv dm df ds,.int .i64 n] w (eP w (.tuple #[zi ⟨⟨#[]⟩,0,0,0⟩,tV (E 3)])):=by
 have HE:=Hq he;have hve:3 < w.heap.size:=World.block_lt_of_cell? _ _ (he.var 3 Aaa);open ajm in exact afl
def MW (l:List Pu) (key:ByteArray):List ByteArray:=(l.map (·.k)).take (place l key)++key::(l.map (·.k)).drop (place l key)
theorem YF (l:List Pu) (key:ByteArray):vL (l.map (·.k)) (place l key) key=(MW l key).map Value.string:=by
 unfold vL MW;simp
theorem AO (l:List Pu) (key:ByteArray):(MW l key).length=l.length+1:=by
 unfold MW;have:=lG l key;simp;omega
theorem JJ {l:List Pu} {p:Pu} (h:found l p.k=false):(iP l p).map (·.k)=MW l p.k:=by
 rw [vW h];unfold MW;simp
theorem Qc (B mp mb n:Nat) (v:Value) (l:List Pu) (G:ByteArray->Pu) (key:ByteArray) (E:Nat->Addr) (w:World) (hp:l.Pairwise JB) (hl:l.length<=20) (hB:B<=w.heap.size) (h:PM w B mp mb n v (l.map (·.k)) G) (he:iG w E):
 Calls Tryz.prog 262 #[.pointer (some ⟨mp,0,none⟩),.string key] w λe w'=>Below B w w'/\(∀k,k < w.heap.size->k≠mp->v.ownBlock≠some k->w'.heap[k]?=w.heap[k]?)/\
  ((found l key=true/\e= .returned .nilIface/\PM w' B mp mb n v (l.map (·.k)) G)\/
   (found l key=false/\l.length=20/\e= .returned (tV (E 4)))\/
   (found l key=false/\l.length < 20/\e= .returned .nilIface/\∃v',PM w' B mp mb n v' (MW l key) G)):=by
 have hrow:=h.row;rw [List.length_map] at hrow
 obtain⟨a,cap,rfl⟩:∃a cap,v= .slice a l.length cap:=by
  exact aee
 have HBS:=Hq (atc B _ l key w hp hl hrow);have hmp:=Fo.lt_of_blk h.blk;have hmb:=h.map.lt;obtain⟨⟨m0,m1⟩,f0,f1⟩:=lM h.blk;have ve:=he.var 4 Aaa;have HH:=Hq h;have HR:=Hq hrow;clear h hrow he;cases hf:found l key
 .by_cases h20:l.length=20
  .have atu:((l.length:Int) == 20)=true:=Aag
   have H20:=Hq h20;clear h20;open aoE in exact WH
  .have atu:((l.length:Int) == 20)=false:=Aag
   open aoD in exact WH
 .open aoC in exact WH
theorem Fq (p:Pu) (dm df ds n:Int) (E:Nat->Addr) (w:World) (hp:gJ p=true) (h1: -1000000000<=dm*n/\dm*n<=1000000000) (h2: -1000000000<=df*n/\df*n<=1000000000) (h3: -1000000000<=ds*n/\ds*n<=1000000000)
 (hok:gJ (eD p dm df ds n)=false) (he:iG w E):
 Calls Tryz.prog 261 #[zi p,shv dm df ds,.int .i64 n] w λe w'=>∃i,i < 5/\e= .returned (.tuple #[zi ⟨⟨#[]⟩,0,0,0⟩,tV (E i)])/\aX w w':=by
 by_cases hf:p.f+df*n < 0\/0<=p.f+df*n/\p.s+ds*n < 0
 .exact(BG p dm df ds n E w hp h1 h2 h3 hf he).mono λe w' ⟨h,hb⟩=>⟨_,Aaa,h,hb⟩
 .exact(zV p dm df ds n E w hp h1 h2 h3 Aaa Aaa hok he).mono λe w' ⟨h,hb⟩=>⟨_,Aaa,h,hb⟩
theorem Js (B mp mb n0:Nat) (v:Value) (l:List Pu) (key:ByteArray) (dm df ds n:Int) (E:Nat->Addr) (w:World) (hkey:key.size<=1048576) (hp:gJ (aG l key)=true) (h1: -1000000000<=dm*n/\dm*n<=1000000000) (h2: -1000000000<=df*n/\df*n<=1000000000) (h3: -1000000000<=ds*n/\ds*n<=1000000000)
 (h:PM w B mp mb n0 v (l.map (·.k)) (aG l)) (he:iG w E) (hok:gJ (eD (aG l key) dm df ds n)=false):
 Calls Tryz.prog 248 #[.pointer (some ⟨mp,0,none⟩),.string key,.int .i64 n,shv dm df ds] w λe w'=>∃i,i < 5/\e= .returned (tV (E i))/\aX w w':=by
 have KH:=Hq (λw1 (hb:aX w w1)=>Jq mp mb n0 v (aG l) key w1 hkey (h.below hb).blk (h.below hb).map);have HSH:=Hq (λw1 (hb:aX w w1)=>Fq (aG l key) dm df ds n E w1 hp h1 h2 h3 hok (he.below hb));clear h he hok hp h1 h2 h3;generalize aG l key=p at *;obtain⟨pk,pm,pf,ps⟩:=p;open aj3 in exact arL
theorem Mx (B mp mb n0:Nat) (v:Value) (l:List Pu) (key:ByteArray) (dm df ds n:Int) (E:Nat->Addr) (w:World) (hB:B<=w.heap.size) (hkey:key.size<=1048576) (hn0:n0 < maxLen) (hl:l.length<=20) (hpw:l.Pairwise JB) (hp:gJ (aG l key)=true) (h1: -1000000000<=dm*n/\dm*n<=1000000000) (h2: -1000000000<=df*n/\df*n<=1000000000) (h3: -1000000000<=ds*n/\ds*n<=1000000000)
 (h:PM w B mp mb n0 v (l.map (·.k)) (aG l)) (he:iG w E) (hok:gJ (eD (aG l key) dm df ds n)=true):
 Calls Tryz.prog 248 #[.pointer (some ⟨mp,0,none⟩),.string key,.int .i64 n,shv dm df ds] w λe w'=>Below B w w'/\
  ((found l key=false/\l.length=20/\e= .returned (tV (E 4)))\/
   ((found l key=true\/l.length < 20)/\e= .returned .nilIface/\∃v',PM w' B mp mb (n0+1) v' ((iP l (eD (aG l key) dm df ds n)).map (·.k)) (upd (aG l) (eD (aG l key) dm df ds n)))):=by
 have hpos:gJ (eD (aG l key) dm df ds n)=true:=hok
 have hff:0<=(aG l key).f+df*n/\0<=(aG l key).s+ds*n:=by
  unfold gJ at hpos;simp only[Bool.and_eq_true] at hpos;have b2:0<=(aG l key).f+df*n/\(aG l key).f+df*n<=1000000000:=of_decide_eq_true hpos.1.1.2;have b3:0<=(aG l key).s+ds*n/\(aG l key).s+ds*n<=1000000000:=of_decide_eq_true hpos.1.2;exact⟨b2.1,b3.1⟩
 have KH:=Hq (λw1 (hb:aX w w1)=>Jq mp mb n0 v (aG l) key w1 hkey (h.below hb).blk (h.below hb).map);have HSH:=Hq (λw1 (hb:aX w w1)=>Jv (aG l key) dm df ds n w1 hp h1 h2 h3 hff.1 hff.2 hok);have aad:=Hq (λw1 (hb:aX w w1)=>Qc B mp mb n0 v l (aG l) key E w1 hpw hl (Nat.le_trans hB hb.size) (h.below hb) (he.below hb));have Vo:=Hq (λw1 (hb:aX w w1)=>h.below hb);have hpk:(eD (aG l key) dm df ds n).k=key:=oq l key;have rG:=Hq (λhf=>(uJ (l:=l) (p:=eD (aG l key) dm df ds n) hf).symm);have HKN:=Hq (λhf=>(JJ (l:=l) (p:=eD (aG l key) dm df ds n) hf).symm);rw [hpk] at rG HKN;have hkk:(aG l key).k=key:=oq l key;clear h he hok hp h1 h2 h3 hpos hff hpw;unfold eD at *;generalize iP l ⟨(aG l key).k,(aG l key).m+dm*n,(aG l key).f+df*n,(aG l key).s+ds*n⟩=PL at *;generalize hG:aG l=G at *;generalize G key=p at *;obtain⟨pk,pm,pf,ps⟩:=p;dsimp only at *;subst hkk;generalize pm+dm*n=qm at *;generalize pf+df*n=qf at *;generalize ps+ds*n=qs at *;clear hG hpk;open aj2 in exact arL
namespace Mth
theorem ZO {l:List Pu} (hp:l.Pairwise JB) (k:Nat) (hk:k < l.length):upd (aG (l.take k)) l[k]=aG (l.take (k+1)):=by
 funext key
 have hsub:(l.take (k+1)).Pairwise JB:=hp.sublist (List.take_sublist _ _);unfold upd;by_cases e:key=l[k].k
 .rw [if_pos e,e];exact(qd hsub (List.mem_take_iff_getElem.2 ⟨k,Aaa,rfl⟩)).symm
 .rw [if_neg e];unfold aG;rw [List.take_succ_eq_append_getElem hk,List.find?_append]
  have:[l[k]].find? (λp=>p.k.toList == key.toList)=none:=by
   rw [List.find?_eq_none];intro q hq;rw [List.mem_singleton] at hq;subst hq;simp only[beq_iff_eq];exact λe'=>e (toList_inj e').symm
  rw [this];simp
end Mth
theorem abd:(Tryz.prog.info? 9).map (λi=>(i.zero,i.size,i.bytes))=some (some (.string ⟨#[]⟩),1,16):=Aab
theorem Jr (a:Option Addr) (cap:Nat) (l:List Pu) (E:Nat->Addr) (w:World) (hl:l.length<=1048600) (ha:aH w a l) (he:iG w E) (hno:iW l=false):
 Calls Tryz.prog 247 #[.slice a l.length cap] w (eP w (.tuple #[.pointer none,tV (E 2)])):=by
 have lS:=Hq (rU a cap l w hl ha);have HE:=Hq he;clear ha he;go_enter Tryz.func247,Tryz.ntmps247
 go_wp2_with fail;refine lS.mono ?_;rintro e w1 ⟨rfl,hb1⟩;rw [hno];have ve:=(HE.below hb1).var 2 Aaa;have HB:=Hq hb1;clear hb1 lS;go_wp2_with fail;go_quiet (fail);go_wp2_with fail;go_ret2
 exact⟨rfl,HB.trans ⟨rfl,rfl,rfl,Nat.le_refl _,λ_ _=>rfl⟩⟩
theorem EZ (a:Option Addr) (cap:Nat) (l:List Pu) (w:World) (ha:aH w a l) (hks:∀p∈l,p.k.size<=1048576) (hok:iW l=true):
 Calls Tryz.prog 247 #[.slice a l.length cap] w λe w'=>∃mp mb v,e= .returned (.tuple #[.pointer (some ⟨mp,0,none⟩),.nilIface])/\PM w' w.heap.size mp mb l.length v (l.map (·.k)) (aG l)/\aX w w':=by
 obtain⟨hpu,hpw,hl⟩:=(jJ l).1 hok;have EA:=Hq hpw;have lS:=Hq (rU a cap l w Aaa ha);have HA:=Hq ha;obtain⟨i0,hi,hz0,hz1,hz2⟩:=info_parts abd;have Vj:=Hq hks;have hmm:= @run_makeMap Tryz.prog;clear ha hpw hpu hks;go_enter Tryz.func247,Tryz.ntmps247
 go_wp2_with fail;refine lS.mono ?_;rintro e w1 ⟨rfl,hb1⟩;rw [hok];have HB1:=Hq hb1;have hw1:=hb1.size;clear hb1 lS hok;go_wp2_with fail;go_loopw [16] (λi wr=>∃(k:Nat) (aa:Option Addr) (cc:Nat),k<=l.length/\i= .int .i64 k/\PM wr w.heap.size (w1.heap.size+1) w1.heap.size k (.slice aa k cc) ((l.take k).map (·.k)) (aG (l.take k))/\aX w wr) (λi _=>l.length - (intOf i).toNat)
 case atStart=>
  refine⟨0,none,0,Nat.zero_le _,rfl,⟨?_,?_,?_,Aaa,Aaa⟩,(HB1.alloc Aaa _).alloc Aag _⟩
  .have:=heap_alloc_new (w1.alloc (.map #[] 0)) (.cells #[.slice none 0 0,.map (some w1.heap.size)] 306);rwa [show(w1.alloc (Obj.map #[] 0)).heap.size=w1.heap.size+1 by simp] at this
  .exact World.ownsRow_nil _ _ _ _
  .exact(iq.made w1).kept (Below.heap_alloc _ _ _ Aac)
 case round=>
  obtain⟨k,aa,cc,hk,rfl,zO,hbel⟩:=hrel;have HP:=Hq zO;have fO:=Hq hbel;have hwr:=hbel.size;clear zO hbel;by_cases hlt:k < l.length
  .obtain⟨g,off,rfl,hgw,c0,c1,c2,c3⟩:=aH.four (GR.At.below HA fO) k hlt;have HUP:=Hq (ZO EA k hlt);have Q8:=Hq (List.take_succ_eq_append_getElem hlt);have hkk:=ah Vj l[k] (List.getElem_mem hlt);generalize l[k]=pu at *;obtain⟨pk,pm,pf,ps⟩:=pu;dsimp only at c0 c1 c2 c3 hkk;go_upto_region 7 with fail;refine Fo.wp_at (λV hV=>?_);have hbV:aX wr V:=by rw [hV];exact dM wr _
   open apz in exact ac9
  .open akr in exact IX
theorem Yw (B mp mb n:Nat) (v:Value) (l:List Pu) (G:ByteArray->Pu) (w:World) (hl:l.length<=20) (hG:∀p∈l,G p.k=p) (hks:∀p∈l,p.k.size<=1048576) (h:PM w B mp mb n v (l.map (·.k)) G):
 Calls Tryz.prog 249 #[.pointer (some ⟨mp,0,none⟩)] w λe w'=>e= .returned (.slice (some ⟨w.heap.size,0,none⟩) l.length l.length)/\uH w' w.heap.size l/\aX w w':=by
 have hrow:=h.row;rw [List.length_map] at hrow
 obtain⟨a,cap,rfl⟩:∃a cap,v= .slice a l.length cap:=by
  exact aee
 have hmk:=Nh l.length Aaa;have HH:=Hq h;have HG:=Hq hG;have Vj:=Hq hks;have HR:=Hq hrow;obtain⟨⟨m0,m1⟩,_⟩:=lM h.blk;have hmp:=Fo.lt_of_blk h.blk;clear h hG hks hrow;go_enter Tryz.func249,Tryz.ntmps249
 go_wp2_with fail;go_loopw [17] (λi wr=>∃k:Nat,k<=l.length/\i= .int .i64 k/\uH wr w.heap.size (l.take k++List.replicate (l.length - k) ⟨ByteArray.empty,0,0,0⟩)/\aX w wr) (λi _=>l.length - (intOf i).toNat)
 case atStart=>exact⟨0,Nat.zero_le _,rfl,by unfold uH GR.Blk;rw [List.take_zero,List.nil_append,Nat.sub_zero];exact heap_alloc_new w _,dM w _⟩
 case round=>
  obtain⟨k,hk,rfl,hB,hbel⟩:=hrel;have HB:=Hq hB;have fO:=Hq hbel;clear hB hbel hmk;by_cases hlt:k < l.length
  .obtain⟨g,cap',ev,hgl,hgw⟩:=HR.form Aaa;have ea:a=some ⟨g,0,none⟩:=by injection ev
   subst ea;have c0:∀(_:k < l.length),Hid True:=λ_=>trivial
   clear c0 ev;have hcl:_:=fO.cell (p:=⟨g,k,none⟩) hgw;have hce:=HR.cellAt k Aaa;have hck:w.cell? ⟨g,k,none⟩=some (.string l[k].k):=by rw [hce];simp[hlt]
   rw [hck] at hcl;clear hce hck;have TS:=Hq (OG l ⟨ByteArray.empty,0,0,0⟩ k hlt);have hkk:=ah Vj l[k] (List.getElem_mem hlt);have hgk:=ah HG l[k] (List.getElem_mem hlt);have afU:=HH.below fO;generalize l[k]=pu at *;have KH:=Hq (Jq mp mb n _ G pu.k wr hkk afU.blk afU.map);rw [hgk] at KH;have lS:=Hq (λw1=>Dt pu w1 hkk);clear hkk hgk afU;obtain⟨pk,pm,pf,ps⟩:=pu;dsimp only at hcl;have hln:(l.take k++List.replicate (l.length - k) (⟨ByteArray.empty,0,0,0⟩:Pu)).length=l.length:=Aag
   go_wp2_with fail;refine KH.mono ?_;rintro e w4 ⟨rfl,hb4⟩;have pE:=Hq (Rx HB hb4);have Cr:=Hq (fO.trans (hb4.mono fO.size));clear hb4 KH;go_wp2_with fail;refine(lS _).mono ?_;rintro e w5 ⟨rfl,hb5⟩;have jW:=Hq (Rx pE hb5);have lT:=Hq (Cr.trans (hb5.mono Cr.size));clear hb5;obtain⟨s0,s1,s2,s3⟩:=uH.four jW k Aaa;have f0:=GR.Blk.free jW (k*4);have f1:=GR.Blk.free jW (k*4+1);have f2:=GR.Blk.free jW (k*4+2);have f3:=GR.Blk.free jW (k*4+3);go_wp2_with fail;go_roundw
   case rel=>
    have h:=GR.Blk.set jW aZ k Aaa ⟨pk,pm,pf,ps⟩;rw [ah TS] at h;exact⟨k+1,Aaa,Aai,h,GR.setW_below (o:=k*4) (Nat.le_refl w.heap.size) (fE ⟨pk,pm,pf,ps⟩) lT⟩
   case measure=>simp[intOf];omega
  .open aks in exact IX
end Go.Proofs.YtacgbldlonoaaaaGreatDoor
