/- Parts. -/
import Derived.Test.YtacgbldlonoaaaaGreatDoorRw12
import Derived.Test.YtacgbldlonoaaaaGreatDoorRw7
import Derived.Test.YtacgbldlonoaaaaGreatDoorRw11
namespace Go.Proofs.YtacgbldlonoaaaaGreatDoor
open Go.Proofs.Tryz
set_option maxHeartbeats 8000000
set_option maxRecDepth 100000
open Go.RowKit
open Mth
variable (B mp mb n:Nat) (v:Value) (l:List Pu) (G:ByteArray->Pu) {w w':World} {g:Nat} {ks:List ByteArray} {xs:List Value}
theorem nI:∀(vs:List Value) {w:World} {g o:Nat} {xs:List Value} {t:TypeId},w.heap[g]?=some (.cells xs.toArray t (0,0))->(w.setCells g o vs).heap[g]?=some (.cells (GR.setRun xs o vs).toArray t (0,0)):=by
 intro vs;induction vs with
 |nil=>intro w g o xs t h;exact h
 |cons v vs ih=>
  intro w g o xs t h
  refine ih (xs:=xs.set o v) ?_
  have:=Fo.blk_set h o v
  simpa using this
theorem qR {g':Nat} (hne:g'≠g):∀(vs:List Value) (w:World) (o:Nat),(w.setCells g o vs).heap[g']?=w.heap[g']?:=by
 intro vs;induction vs with
 |nil=>intro w o;rfl
 |cons v vs ih=>intro w o;exact(ih (w.setCell ⟨g,o,none⟩ v) (o+1)).trans (Below.heap_setCell _ _ _ _ hne)
theorem setCells_size:∀(vs:List Value) (w:World) (o:Nat),(w.setCells g o vs).heap.size=w.heap.size:=by
 intro vs;induction vs with
 |nil=>intro w o;rfl
 |cons v vs ih=>intro w o;exact(ih (w.setCell ⟨g,o,none⟩ v) (o+1)).trans (Fo.setCell_size w _ v)
theorem gZ:∀(vs:List Value) (w:World) (o:Nat),(w.setCells g o vs).os=w.os/\(w.setCells g o vs).tape=w.tape/\(w.setCells g o vs).output=w.output:=by
 intro vs;induction vs with
 |nil=>intro w o;exact⟨rfl,rfl,rfl⟩
 |cons v vs ih=>intro w o;exact ih (w.setCell ⟨g,o,none⟩ v) (o+1)
theorem qQ (w:World) (g o:Nat) (vs:List Value):w.grownBy (w.setCells g o vs) (some g):=
 ⟨(gZ vs w o).1,(gZ vs w o).2.1,(gZ vs w o).2.2,by rw [setCells_size];exact Nat.le_refl _,λk _ hne=>qR (λe=>hne Aao) vs w o⟩
theorem qU (a m b vs:List Value) (h:vs.length=m.length):GR.setRun (a++(m++b)) a.length vs=a++(vs++b):=by
 have:=GR.setRun_append_right a vs 0 (m++b);rw [Nat.add_zero] at this;rw [this,GR.setRun_head vs m b h]
def xD (ks:List ByteArray) (i:Nat) (key:ByteArray):List Value:=(ks.map Value.string).take i++(.string key::(ks.map Value.string).drop i)
theorem oZ (ks:List ByteArray) (i:Nat) (key:ByteArray) (hi:i<=ks.length):(xD ks i key).length=ks.length+1:=by
 unfold xD;simp;omega
theorem Ag (ks:List ByteArray):∀v∈ks.map Value.string,v.oneCell'=true:=by
 intro v hv;obtain⟨k,_,rfl⟩:=List.mem_map.1 hv;rfl
theorem axX (B:Nat) (v:Value) (l:List Pu) (key:ByteArray) (w:World) (hp:l.Pairwise Mf) (hl:l.length<=20) (h:w.ownsRow B 9 1 v l.length ((l.map (·.k)).map Value.string)):
 Calls prog 270 #[v,.string key] w λe w'=>e= .returned (.tuple #[.int .i64 (place l key:Nat),.bool (found l key)])/\∃q,w'=w.drewN q:=by
 by_cases h0:l.length=0
 .have hl0:l=[]:=List.eq_nil_of_length_eq_zero h0;subst hl0
  have hv:∃a c,v= .slice a 0 c:=by
   rcases h.2 with⟨rfl,_⟩|⟨g,cap,cur,rfl,_⟩
   .exact⟨none,0,rfl⟩
   .exact⟨_,_,rfl⟩
  obtain⟨a,c,rfl⟩:=hv;exact(Any2.slices_BinarySearch_string_empty FU a c key w).mono λe w' ⟨he,hw⟩=>⟨by rw [he];rfl,0,hw⟩
 .obtain⟨g,cap,rfl,_,_⟩:=h.form Aaa
  have hb:=Any2.slices_BinarySearch_string FU g 0 l.length cap (vZ l key) key w Aaa (λj hj=>by
   have hc:=h.cellAt j Aaa
   rw [Nat.zero_add,hc]
   unfold vZ
   simp[hj])
  rw [aaX hp key,OU l key] at hb;exact hb
theorem L9 {B cap:Nat} {i:Nat} {key:ByteArray} {bs:List Value} (hi:i<=ks.length) (hg:B<=g) (hcap:ks.length+1<=cap) (hcm:cap<=maxLen) (hlen:(xD ks i key++bs).length=cap) (h:w.heap[g]?=some (.cells (xD ks i key++bs).toArray 9 (0,0))):w.ownsRow B 9 1 (.slice (some ⟨g,0,none⟩) (ks.length+1) cap) (ks.length+1) (xD ks i key):=by
 have hl:=oZ ks i key hi;refine⟨Aaa,.inr ⟨g,cap,_,rfl,hg,h,hcap,hcm,by rw [List.size_toArray];omega,?_⟩⟩;rw [List.toList_toArray,Nat.mul_one,<-hl,List.take_left'];rfl
theorem uY (n:Nat):(Builtin.zeroCells (Value.string ⟨#[]⟩).cells n).toList.length=n:=by
 rw [Array.length_toList,size_zeroCells];simp[Value.cells]
theorem Cc (w:World) (o:Obj) (row:Option Nat):w.grownBy (w.drew.alloc o) row:=
 ⟨rfl,rfl,rfl,Aac,λk hk _=>Below.heap_alloc w.drew _ _ hk⟩
theorem P5 (ks:List ByteArray) (key:ByteArray):xD ks ks.length key=ks.map Value.string++[.string key]:=by
 unfold xD;rw [List.take_of_length_le Aac,List.drop_of_length_le Aac]
theorem FM (B:Nat) (base:Option Addr) (c:Nat) (ks:List ByteArray) (key:ByteArray) (vb:Nat) (w:World) (hn:ks.length<=20) (hB:B<=w.heap.size) (hnc:ks.length<=c) (hroom:c < ks.length+1) (hnil:base=none->ks.length=0) (hcs:∀a,base=some a->∀(j:Nat) (v:Value),(ks.map Value.string)[j]?=some v->w.cell? (a.add j)=some v) (hvs:∀(j:Nat) (u:Value),[Value.string key][j]?=some u->w.cell? ⟨vb,0+j,none⟩=some u) (h1v:∀u∈[Value.string key],u.oneCell'=true) (row:Option Nat):
 Calls prog 271 #[.slice base ks.length c,.int .i64 (ks.length:Nat),.slice (some ⟨vb,0,none⟩) 1 1] w λe w'=>∃v',e= .returned v'/\w'.ownsRow B 9 1 v' (ks.length+1) (xD ks ks.length key)/\w.grownBy w' row:=by
 refine(Any2.slices_Insert_string_end_grow uK base ks.length c vb 0 1 1 (ks.map Value.string) [.string key] w Aaa hnc hroom Aaa Aac rfl hnil hcs hvs h1v).mono λe w' ⟨he,hw⟩=>?_
 have hge:=grownCap_ge w (ks.length+1) c (vH.t 9);have hle:=grownCap_le_maxLen w (ks.length+1) c (vH.t 9) Aah;refine⟨_,he,?_,by rw [hw];exact Cc w _ row⟩;generalize grownCap w (ks.length+1) c (vH.t 9)=cap at *;refine L9 (w:=w') (bs:=(Builtin.zeroCells (Value.string ⟨#[]⟩).cells (cap - (ks.length+1))).toList) (Nat.le_refl _) hB hge hle ?_ ?_
 .rw [List.length_append,uY,oZ _ _ _ (Nat.le_refl _)];omega
 .rw [hw];have:=heap_alloc_new w.drew (.cells ((ks.map Value.string++[Value.string key]).toArray++Builtin.zeroCells (Value.string ⟨#[]⟩).cells (cap - (ks.length+1))) (vH.t 9));refine Eq.trans this ?_;rw [P5]
  have e:(ks.map Value.string++[Value.string key]).toArray++Builtin.zeroCells (Value.string ⟨#[]⟩).cells (cap - (ks.length+1))=(ks.map Value.string++[Value.string key]++(Builtin.zeroCells (Value.string ⟨#[]⟩).cells (cap - (ks.length+1))).toList).toArray:=by
   apply Array.toList_inj.1
   simp
  rw [e];rfl
theorem ajN (B:Nat) (v:Value) (ks:List ByteArray) (i:Nat) (key:ByteArray) (vb:Nat) (w:World) (hi:i<=ks.length) (hn:ks.length<=20) (hB:B<=w.heap.size) (h:w.ownsRow B 9 1 v ks.length (ks.map Value.string)) (hv:w.heap[vb]?=some (.cells #[.string key] 9 (0,0))) (hvb:v.ownBlock≠some vb):
 Calls prog 271 #[v,.int .i64 (i:Nat),.slice (some ⟨vb,0,none⟩) 1 1] w λe w'=>∃v',e= .returned v'/\w'.ownsRow B 9 1 v' (ks.length+1) (xD ks i key)/\w.grownBy w' v.ownBlock:=by
 have hvs:∀(j:Nat) (u:Value),[Value.string key][j]?=some u->w.cell? ⟨vb,0+j,none⟩=some u:=λj u hu=>by
  rw [cell_of_row w vb _ _ 9 (0,0) hv,Nat.zero_add]
  simpa using hu
 have h1v:∀u∈[Value.string key],u.oneCell'=true:=λu hu=>by rw [List.mem_singleton.1 hu];rfl
 have hfree:∀j,w.frozen? ⟨vb,j,none⟩=false:=λj=>by unfold World.frozen?;rw [hv];simp
 have hsa:w.shape? vb=some (9,1):=by unfold World.shape?;rw [hv];rfl
 rcases h.2 with⟨rfl,h0⟩|⟨g,cap,cur,rfl,hg,hblk,hnc,hcm,hcs,htk⟩
 .have hi0:i=ks.length:=Aaa
  subst hi0;have:=FM B none 0 ks key vb w hn hB Aaa Aaa (λ_=>h0) (λa ha=>by cases ha) hvs h1v none;rw [h0] at this ⊢;exact this
 have aBL:vb≠g:=λe=>hvb (by rw [e];rfl)
 obtain⟨sp,hcur⟩:∃sp,cur.toList=ks.map Value.string++sp:=⟨cur.toList.drop ks.length,by
  rw [Nat.mul_one] at htk
  rw [<-htk,List.take_append_drop]⟩
 have hblk2:w.heap[g]?=some (.cells (ks.map Value.string++sp).toArray 9 (0,0)):=by rw [hblk,<-hcur]
 have abD:ks.length+sp.length=cap:=by
  have:=congrArg List.length hcur;rw [Array.length_toList,hcs] at this;simp at this;omega
 have hcell:∀j,w.cell? ⟨g,j,none⟩=(ks.map Value.string++sp)[j]?:=λj=>by
  rw [cell_of_row w g j _ 9 (0,0) hblk2]
  simp
 have hfz:∀j,w.frozen? ⟨g,j,none⟩=false:=λj=>by unfold World.frozen?;rw [hblk2];simp
 have aju:∀(j:Nat) (u:Value),(ks.map Value.string)[j]?=some u->w.cell? ⟨g,0+j,none⟩=some u:=λj u hu=>by
  rw [Nat.zero_add,hcell,List.getElem?_append_left (List.getElem?_eq_some_iff.1 hu).1]
  exact hu
 rcases Nat.lt_or_ge i ks.length with hlt|hge
 .obtain⟨ra,hra⟩:∃ra,ra=(ks.map Value.string).take i:=⟨_,rfl⟩;obtain⟨rb,hrb⟩:∃rb,rb=(ks.map Value.string).drop i:=⟨_,rfl⟩;have hsplit:ks.map Value.string=ra++rb:=by rw [hra,hrb,List.take_append_drop]
  have ayj:ra.length=i:=by rw [hra];simp;omega
  have aCG:rb.length=ks.length - i:=by rw [hrb];simp
  have hins:xD ks i key=ra++(.string key::rb):=by unfold xD;rw [<-hra,<-hrb]
  by_cases hroom:ks.length+1<=cap
  .have hsb:w.shape? g=some (9,cap):=by unfold World.shape?;rw [hblk2];simp;omega
   refine(Any2.slices_Insert_string_shift uK g 0 ks.length cap i vb 0 1 1 (ks.map Value.string) [.string key] w hlt Aaa hroom Acn aBL Aac rfl aju
    (λj hj=>by rw [Nat.zero_add,hcell];simp;omega) (λj _=>hfz _) hvs (Ag ks) h1v 9 9 1 cap hsa hsb Aaa (hfree _) (hfree _)).mono λe w' ⟨he,hw⟩=>?_
   obtain⟨s0,sp',hsp⟩:∃s0 sp',sp=s0::sp':=by
    exact ahR
   obtain⟨x0,A,hxA,hAl⟩:∃x0 A,rb++[s0]=x0::A/\A.length=rb.length:=by
    cases hb:rb++[s0] with
    |nil=>simp at hb
    |cons x0 A=>
     refine⟨x0,A,rfl,?_⟩
     have:=congrArg List.length hb
     simp at this
     omega
   have hxs:ks.map Value.string++sp=(ra++[x0])++(A++sp'):=by
    rw [hsplit,hsp];have:ra++rb++s0::sp'=ra++((rb++[s0])++sp'):=Aac
    rw [this,hxA];simp
   have e1:GR.setRun (ks.map Value.string++sp) (0+(i+1)) rb=(ra++[x0])++(rb++sp'):=by
    rw [hxs];have:=qU (ra++[x0]) A sp' rb hAl.symm;rw [show(ra++[x0]).length=0+(i+1) by simp;omega] at this;exact this
   have e2:GR.setRun ((ra++[x0])++(rb++sp')) (0+i) [.string key]=xD ks i key++sp':=by
    have:=qU ra [x0] (rb++sp') [.string key] rfl;rw [ayj] at this;rw [Nat.zero_add,hins];have e:(ra++[x0])++(rb++sp')=ra++([x0]++(rb++sp')):=Aac
    rw [e,this];simp
   refine⟨_,he,L9 (bs:=sp') hi hg hroom hcm ?_ ?_,?_⟩
   .rw [List.length_append,oZ ks i key hi];rw [hsp] at abD;simp at abD;omega
   .rw [hw,<-hrb];have h1:=nI rb (w:=w.drew) (o:=0+(i+1)) hblk2;rw [e1] at h1;have h2:=nI [.string key] (o:=0+i) h1;rw [e2] at h2;exact h2
   .rw [hw];have h1:=qQ w.drew g (0+(i+1)) ((ks.map Value.string).drop i);have h2:=qQ (w.drew.setCells g (0+(i+1)) ((ks.map Value.string).drop i)) g (0+i) [.string key];exact⟨h2.os.trans h1.os,h2.tape.trans h1.tape,h2.output.trans h1.output,Nat.le_trans h1.size h2.size,λk hk hne=>(h2.block k (Nat.lt_of_lt_of_le hk h1.size) hne).trans (h1.block k hk hne)⟩
  .have aB2:cap=ks.length:=Aaa
   refine(Any2.slices_Insert_string_grow uK g 0 ks.length cap i vb 0 1 1 (ks.map Value.string) [.string key] w hlt Aaa hnc Aaa Aaa Aac rfl aju hvs (Ag ks) h1v).mono λe w' ⟨he,hw⟩=>?_
   have hge:=grownCap_ge w (ks.length+1) cap (vH.t 9);have hle:=grownCap_le_maxLen w (ks.length+1) cap (vH.t 9) Aah;generalize grownCap w (ks.length+1) cap (vH.t 9)=cap' at *;obtain⟨z1,hz1⟩:∃z1,z1=(Builtin.zeroCells (Value.string ⟨#[]⟩).cells (ks.length+1 - i)).toList:=⟨_,rfl⟩;obtain⟨z2,hz2⟩:∃z2,z2=(Builtin.zeroCells (Value.string ⟨#[]⟩).cells (cap' - (ks.length+1))).toList:=⟨_,rfl⟩;have aei:z1.length=ks.length+1 - i:=by rw [hz1,uY]
   have DX:z2.length=cap' - (ks.length+1):=by rw [hz2,uY]
   obtain⟨x0,A,hxA⟩:∃x0 A,z1=x0::A:=by
    cases z1 with
    |nil=>simp at aei;omega
    |cons x0 A=>exact⟨x0,A,rfl⟩
   have hAl:A.length=rb.length:=by rw [hxA] at aei;simp at aei;omega
   have hall:(w.alloc (.cells (((ks.map Value.string).take i).toArray++Builtin.zeroCells (Value.string ⟨#[]⟩).cells (ks.length+1 - i)++Builtin.zeroCells (Value.string ⟨#[]⟩).cells (cap' - (ks.length+1))) (vH.t 9))).heap[w.heap.size]?=some (.cells (ra++([x0]++(A++z2))).toArray 9 (0,0)):=by
    refine Eq.trans (heap_alloc_new w _) ?_
    have e:((ks.map Value.string).take i).toArray++Builtin.zeroCells (Value.string ⟨#[]⟩).cells (ks.length+1 - i)++Builtin.zeroCells (Value.string ⟨#[]⟩).cells (cap' - (ks.length+1))=(ra++([x0]++(A++z2))).toArray:=by
     apply Array.toList_inj.1
     rw [Array.toList_append,Array.toList_append,<-hz1,<-hz2,hxA,hra];simp
    rw [e];rfl
   have e1:GR.setRun (ra++([x0]++(A++z2))) i [.string key]=(ra++[.string key])++(A++z2):=by
    have:=qU ra [x0] (A++z2) [.string key] rfl;rw [ayj] at this;rw [this];simp
   have e2:GR.setRun ((ra++[.string key])++(A++z2)) (i+1) rb=xD ks i key++z2:=by
    have:=qU (ra++[.string key]) A z2 rb hAl.symm;rw [show(ra++[Value.string key]).length=i+1 by simp;omega] at this;rw [this,hins];simp
   refine⟨_,he,L9 (bs:=z2) hi hB hge hle ?_ ?_,?_⟩
   .rw [List.length_append,oZ ks i key hi];omega
   .rw [hw,<-hrb];have h1:=nI [.string key] (w:=(w.alloc (.cells (((ks.map Value.string).take i).toArray++Builtin.zeroCells (Value.string ⟨#[]⟩).cells (ks.length+1 - i)++Builtin.zeroCells (Value.string ⟨#[]⟩).cells (cap' - (ks.length+1))) (vH.t 9))).drew) (o:=i) hall;rw [e1] at h1;have h2:=nI rb (w:=((w.alloc (.cells (((ks.map Value.string).take i).toArray++Builtin.zeroCells (Value.string ⟨#[]⟩).cells (ks.length+1 - i)++Builtin.zeroCells (Value.string ⟨#[]⟩).cells (cap' - (ks.length+1))) (vH.t 9))).drew.setCells w.heap.size i [.string key]).drew) (o:=i+1) h1;rw [e2] at h2;exact h2
   .rw [hw];refine⟨?_,?_,?_,?_,?_⟩
    .rw [(gZ _ _ _).1];exact(gZ _ _ _).1
    .rw [(gZ _ _ _).2.1];exact(gZ _ _ _).2.1
    .rw [(gZ _ _ _).2.2];exact(gZ _ _ _).2.2
    .rw [setCells_size];refine Nat.le_trans ?_ (Nat.le_of_eq (setCells_size _ _ _).symm);show w.heap.size<=(w.alloc _).heap.size
     simp
    .intro k hk _;rw [qR Aaa];refine(qR (g:=w.heap.size) (g':=k) Aaa _ _ _).trans ?_;exact Below.heap_alloc w _ _ hk
 .have hie:i=ks.length:=Aaa
  subst hie;by_cases hroom:ks.length+1<=cap
  .refine(Any2.slices_Insert_string_end_room uK g 0 ks.length cap vb 0 1 1 [.string key] w Aaa hroom Acn rfl
    (λj hj=>by rw [Nat.zero_add,hcell];simp;omega) (λj _=>hfz _) hvs h1v).mono λe w' ⟨he,hw⟩=>?_
   obtain⟨s0,sp',hsp⟩:∃s0 sp',sp=s0::sp':=by
    exact ahR
   have e1:GR.setRun (ks.map Value.string++sp) (0+ks.length) [.string key]=xD ks ks.length key++sp':=by
    have:=qU (ks.map Value.string) [s0] sp' [.string key] rfl;rw [List.length_map] at this;rw [Nat.zero_add,hsp,P5];have e:ks.map Value.string++s0::sp'=ks.map Value.string++([s0]++sp'):=Aac
    rw [e,this];simp
   refine⟨_,he,L9 (bs:=sp') (Nat.le_refl _) hg hroom hcm ?_ ?_,by rw [hw];exact qQ w g (0+ks.length) [.string key]⟩
   .rw [List.length_append,oZ ks _ key (Nat.le_refl _)];rw [hsp] at abD;simp at abD;omega
   .rw [hw];have h1:=nI [.string key] (w:=w) (o:=0+ks.length) hblk2;rw [e1] at h1;exact h1
  .exact FM B (some ⟨g,0,none⟩) cap ks key vb w hn hB hnc Aaa (λha=>by cases ha) (λa ha j u hu=>by
    injection ha with ha
    subst ha
    have e:(⟨g,0,none⟩:Addr).add j=⟨g,0+j,none⟩:=by unfold Addr.add;split<;>simp_all
    rw [e]
    exact aju j u hu) hvs h1v (some g)
open Go.RowKit Go.Maps
structure PM (w:World) (B mp mb n:Nat) (v:Value) (ks:List ByteArray) (G:ByteArray->Pu):Prop where
 blk:w.heap[mp]?=some (.cells #[v,.map (some mb)] 306 (0,0))
 row:w.ownsRow B 9 1 v ks.length (ks.map Value.string)
 map:iN w mb n G
 lop:B<=mp
 lom:B<=mb
theorem own_ne {B n:Nat} {v:Value} {t:TypeId} {cs:Array Value} {fr:Nat×Nat} (h:w.ownsRow B 9 1 v n xs) (hg:w.heap[g]?=some (.cells cs t fr)) (ht:t≠9):v.ownBlock≠some g:=by
 rcases h.2 with⟨rfl,_⟩|⟨g',cap,cur,rfl,_,hb,_⟩
 .intro e;cases e
 .intro e;injection e with e
  have e':g'=g:=e;subst e';rw [hg] at hb;injection hb with hb
  injection hb with h1 h2 h3
  exact ht h2
theorem yH {B n:Nat} {v:Value} {es:Array MapEntry} {clock:Nat} (h:w.ownsRow B 9 1 v n xs) (hg:w.heap[g]?=some (.map es clock)):v.ownBlock≠some g:=by
 rcases h.2 with⟨rfl,_⟩|⟨g',cap,cur,rfl,_,hb,_⟩
 .intro e;cases e
 .intro e;injection e with e
  have e':g'=g:=e;subst e';rw [hg] at hb;cases hb
theorem iN.blk {mb n:Nat} {G:ByteArray->Pu} (h:iN w mb n G):∃es clock,w.heap[mb]?=some (.map es clock):=by
 obtain⟨D,⟨es,clock,h1,_⟩,_⟩:=h;exact⟨es,clock,h1⟩
theorem PM.mpmb {B mp mb n:Nat} {v:Value} {G:ByteArray->Pu} (h:PM w B mp mb n v ks G):mp≠mb:=by
 obtain⟨es,clock,hb⟩:=h.map.blk;intro e;have:=h.blk;rw [e,hb] at this;cases this
theorem PM.below {B mp mb n:Nat} {v:Value} {G:ByteArray->Pu} (h:PM w B mp mb n v ks G) (hb:aY w w'):PM w' B mp mb n v ks G:=by
 have hg:w.grownBy w' none:=⟨hb.os,hb.tape,hb.output,hb.size,λk hk _=>hb.block k hk⟩;refine⟨?_,?_,?_,h.lop,h.lom⟩
 .rw [hb.block _ (Fo.lt_of_blk h.blk)];exact h.blk
 .refine h.row.kept hg ?_;exact ahS
 .exact h.map.kept (hb.block _ h.map.lt)
theorem PM.drewN {B mp mb n q:Nat} {v:Value} {G:ByteArray->Pu} (h:PM w B mp mb n v ks G):PM (w.drewN q) B mp mb n v ks G:=⟨h.blk,h.row,h.map,h.lop,h.lom⟩
theorem PM.turned {B mp mb n n':Nat} {v:Value} {G G':ByteArray->Pu} (h:PM w B mp mb n v ks G) (hk:Keeps mb w w') (hm:iN w' mb n' G'):PM w' B mp mb n' v ks G':=by
 have hg:w.grownBy w' (some mb):=⟨hk.os,hk.tape,hk.output,hk.size,λk hl hne=>hk.block k hl (λe=>hne Aao)⟩;obtain⟨es,clock,hb⟩:=h.map.blk;refine⟨?_,?_,hm,h.lop,h.lom⟩
 .rw [hk.block _ (Fo.lt_of_blk h.blk) h.mpmb];exact h.blk
 .refine h.row.kept hg (.inr (yH h.row hb))
theorem Dc {B:Nat} (hk:Keeps g w w') (hg:B<=g) (hB:B<=w.heap.size):Below B w w':=⟨hk.os,hk.tape,hk.output,hk.size,λk hl=>hk.block k Aaa Aaa⟩
def PW (l:List Pu) (key:ByteArray):List ByteArray:=(l.map (·.k)).take (place l key)++key::(l.map (·.k)).drop (place l key)
theorem abS (l:List Pu) (key:ByteArray):xD (l.map (·.k)) (place l key) key=(PW l key).map Value.string:=by
 unfold xD PW;simp
theorem Da (l:List Pu) (key:ByteArray):(PW l key).length=l.length+1:=by
 unfold PW;have:=nG l key;simp;omega
theorem Mx {l:List Pu} {p:Pu} (h:found l p.k=false):(jq l p).map (·.k)=PW l p.k:=by
 rw [xS h];unfold PW;simp
theorem TA (key:ByteArray) (E:Nat->Addr) (w:World) (hp:l.Pairwise Mf) (hl:l.length<=20) (hB:B<=w.heap.size) (h:PM w B mp mb n v (l.map (·.k)) G) (he:iH w E):
 Calls prog 262 #[.pointer (some ⟨mp,0,none⟩),.string key] w λe w'=>Below B w w'/\(∀k,k < w.heap.size->k≠mp->v.ownBlock≠some k->w'.heap[k]?=w.heap[k]?)/\
  ((found l key=true/\e= .returned .nilIface/\PM w' B mp mb n v (l.map (·.k)) G)\/
   (found l key=false/\l.length=20/\e= .returned (uw (E 4)))\/
   (found l key=false/\l.length < 20/\e= .returned .nilIface/\∃v',PM w' B mp mb n v' (PW l key) G)):=by
 have hrow:=h.row;rw [List.length_map] at hrow
 obtain⟨a,cap,rfl⟩:∃a cap,v= .slice a l.length cap:=by
  exact ahx
 have HBS:=Hq (axX B _ l key w hp hl hrow);have hmp:=Fo.lt_of_blk h.blk;have hmb:=h.map.lt;obtain⟨⟨m0,m1⟩,f0,f1⟩:=nM h.blk;have ve:=he.var 4 Aaa;have HH:=Hq h;have HR:=Hq hrow;clear h hrow he;cases hf:found l key
 .by_cases h20:l.length=20
  .have aye:((l.length:Int) == 20)=true:=Aaf
   have H20:=Hq h20;clear h20;open atn in exact aae
  .have aye:((l.length:Int) == 20)=false:=Aaf
   open atm in exact aae
 .open atl in exact aae
theorem abL (w:World) (hl:l.length<=20) (hG:∀p∈l,G p.k=p) (hks:∀p∈l,p.k.size<=1048576) (h:PM w B mp mb n v (l.map (·.k)) G):
 Calls prog 249 #[.pointer (some ⟨mp,0,none⟩)] w λe w'=>e= .returned (.slice (some ⟨w.heap.size,0,none⟩) l.length l.length)/\wD w' w.heap.size l/\aY w w':=by
 have hrow:=h.row;rw [List.length_map] at hrow
 obtain⟨a,cap,rfl⟩:∃a cap,v= .slice a l.length cap:=by
  exact ahx
 have hmk:=Qd l.length Aaa;have HH:=Hq h;have HG:=Hq hG;have YN:=Hq hks;have HR:=Hq hrow;obtain⟨⟨m0,m1⟩,_⟩:=nM h.blk;have hmp:=Fo.lt_of_blk h.blk;clear h hG hks hrow;go_in
 go_wp2_with fail;go_loopw [17] (λi wr=>∃k:Nat,k<=l.length/\i= .int .i64 k/\wD wr w.heap.size (l.take k++List.replicate (l.length - k) ⟨ByteArray.empty,0,0,0⟩)/\aY w wr) (λi _=>l.length - (intOf i).toNat)
 case atStart=>exact⟨0,Nat.zero_le _,rfl,by unfold wD GR.Blk;rw [List.take_zero,List.nil_append,Nat.sub_zero];exact heap_alloc_new w _,dU w _⟩
 case round=>
  obtain⟨k,hk,rfl,hB,hbel⟩:=hrel;have HB:=Hq hB;have gI:=Hq hbel;clear hB hbel hmk;by_cases hlt:k < l.length
  .obtain⟨g,cap',ev,hgl,hgw⟩:=HR.form Aaa;have ea:a=some ⟨g,0,none⟩:=by injection ev
   subst ea;have c0:∀(_:k < l.length),Hid True:=λ_=>trivial
   clear c0 ev;have hcl:_:=gI.cell (p:=⟨g,k,none⟩) hgw;have hce:=HR.cellAt k Aaa;have hck:w.cell? ⟨g,k,none⟩=some (.string l[k].k):=by rw [hce];simp[hlt]
   rw [hck] at hcl;clear hce hck;have TS:=Hq (Q9 l ⟨ByteArray.empty,0,0,0⟩ k hlt);have hkk:=ah YN l[k] (List.getElem_mem hlt);have hgk:=ah HG l[k] (List.getElem_mem hlt);have ajo:=HH.below gI;generalize l[k]=pu at *;have ND:=Hq (LQ mp mb n _ G pu.k wr hkk ajo.blk ajo.map);rw [hgk] at ND;have lD:=Hq (λw1=>FI pu w1 hkk);clear hkk hgk ajo;obtain⟨pk,pm,pf,ps⟩:=pu;dsimp only at hcl;have hln:(l.take k++List.replicate (l.length - k) (⟨ByteArray.empty,0,0,0⟩:Pu)).length=l.length:=Aaf
   go_wp2_with fail;refine ND.mono ?_;rintro e w4 ⟨rfl,hb4⟩;have lI:=Hq (Vq HB hb4);have EB:=Hq (gI.trans (hb4.mono gI.size));clear hb4 ND;go_wp2_with fail;refine(lD _).mono ?_;rintro e w5 ⟨rfl,hb5⟩;have iX:=Hq (Vq lI hb5);have mH:=Hq (EB.trans (hb5.mono EB.size));clear hb5;obtain⟨s0,s1,s2,s3⟩:=wD.four iX k Aaa;have f0:=GR.Blk.free iX (k*4);have f1:=GR.Blk.free iX (k*4+1);have f2:=GR.Blk.free iX (k*4+2);have f3:=GR.Blk.free iX (k*4+3);go_wp2_with fail;go_roundw
   case rel=>
    have h:=GR.Blk.set iX aX k Aaa ⟨pk,pm,pf,ps⟩;rw [ah TS] at h;exact⟨k+1,Aaa,Aai,h,GR.setW_below (o:=k*4) (Nat.le_refl w.heap.size) (fH ⟨pk,pm,pf,ps⟩) mH⟩
   case measure=>simp[intOf];omega
  .open an2 in exact Hu
theorem oN (w:World) (q:Nat):Below w.heap.size w (w.drewN q):=⟨rfl,rfl,rfl,Nat.le_refl _,λ_ _=>rfl⟩
theorem Yk (a b:Option Addr) (ca cb:Nat) (l:List Int) (w:World) (hl:l.length<=1048600) (ha:dX w a l) (hb:dX w b l):
 Calls prog 48 #[.slice a l.length ca,.slice b l.length cb] w (fF w (.bool true)):=by
 have HA:=Hq ha;have HB:=Hq hb;clear ha hb;go_in
 go_wp2_with fail;go_loopw [5] (λi wr=>∃k q:Nat,k<=l.length/\i= .int .i64 k/\wr=w.drewN q) (λi _=>l.length - (intOf i).toNat)
 case atStart=>exact⟨0,0,Nat.zero_le _,rfl,rfl⟩
 case round=>
  obtain⟨k,q,hk,rfl,rfl⟩:=hrel;by_cases hlt:k < l.length
  .obtain⟨g1,o1,rfl,hg1,s0⟩:=dX.one HA k hlt;obtain⟨g2,o2,rfl,hg2,t0⟩:=dX.one HB k hlt;generalize l[k]=pu at *;exact axu
  .exact ag0
theorem QC (a b:Option Addr) (ca cb:Nat) (l:List Pu) (w:World) (hl:l.length<=1048600) (ha:aI w a l) (hb:aI w b l):
 Calls prog 49 #[.slice a l.length ca,.slice b l.length cb] w (fF w (.bool true)):=by
 have HA:=Hq ha;have HB:=Hq hb;clear ha hb;go_in
 go_wp2_with fail;go_loopw [5] (λi wr=>∃k q:Nat,k<=l.length/\i= .int .i64 k/\wr=w.drewN q) (λi _=>l.length - (intOf i).toNat)
 case atStart=>exact⟨0,0,Nat.zero_le _,rfl,rfl⟩
 case round=>
  obtain⟨k,q,hk,rfl,rfl⟩:=hrel;by_cases hlt:k < l.length
  .obtain⟨g1,o1,rfl,hg1,s0,s1,s2,s3⟩:=aI.four HA k hlt;obtain⟨g2,o2,rfl,hg2,t0,t1,t2,t3⟩:=aI.four HB k hlt;generalize l[k]=pu at *;obtain⟨pk,pm,pf,ps⟩:=pu;exact aaM
  .exact ag0
theorem aaU (w:World) (a b:Obj):((w.alloc a).alloc b).heap[w.heap.size]?=some a/\((w.alloc a).alloc b).heap[w.heap.size+1]?=some b/\Below w.heap.size w ((w.alloc a).alloc b):=by
 have e1:(w.alloc a).heap.size=w.heap.size+1:=Aac
 have h1:=heap_alloc_new w a;have h2:=heap_alloc_new (w.alloc a) b;rw [e1] at h2;refine⟨?_,h2,(au w _).alloc Aac _⟩;rw [Below.heap_alloc _ _ _ (by rw [e1];omega)];exact h1
theorem Yl (n:Nd) (A B:bC) (w:World) (hz:eY n 1048576) (ha:bQ w A n) (hb:bQ w B n):
 Calls prog 14 #[fT n A,fT n B] w (fF w (.bool true)):=by
 obtain⟨hA,hB,hbw⟩:=aaU w (.cells (dD n A) 30) (.cells (dD n B) 30);generalize hW:(w.alloc (.cells (dD n A) 30)).alloc (.cells (dD n B) 30)=W at *;have HA:=Hq hA;have HB:=Hq hB;have iA:=Hq hbw;have KO:=Hq (ha.below hbw);have Ro:=Hq (hb.below hbw);have HSI:=Hq (λa b ca cb (l:List Int) (w:World) (hl:l.length<=1048576) ha hb=>Yk a b ca cb l w Aaa ha hb);have Rv:=Hq (λa b ca cb (l:List Pu) (w:World) (hl:l.length<=1048576) ha hb=>QC a b ca cb l w Aaa ha hb);have HZ:=Hq hz;have hzo:=hz.o;have hzs:=hz.s;have hzr:=hz.r;clear hA hB hbw ha hb hz;open aoY in exact yc
end Go.Proofs.YtacgbldlonoaaaaGreatDoor
