/- Parts. -/
import Derived.Test.YtohmklmkjmlpjaaGreatDoorRk8
namespace Go.Proofs.YtohmklmkjmlpjaaGreatDoor
open Go.Proofs.Tryz
set_option maxHeartbeats 4000000
set_option maxRecDepth 100000
open Go.RowKit
open Mth
theorem oU (p:Pu) (b:Bool) (w:World) (h:iy p=b):Calls prog 202 #[wS p] w (eG w (.bool b)):=by
 rw [<-h];exact abL p w
theorem PI (a b:ByteArray):Op.bytesLess b.toList a.toList= !sle a b:=by
 cases h:sle a b
 .exact(pW _ _).2 ((nA a b).1 h)
 .cases h2:Op.bytesLess b.toList a.toList
  .rfl
  .rw [(nA a b).2 ((pW _ _).1 h2)] at h;cases h
theorem tQ (a:Option Addr) (cap:Nat) (l:List Pu) (w:World) (hl:l.length<=1048600) (ha:aG w a l):
 Calls prog 168 #[.slice a l.length cap] w (eG w (.bool (jk l))):=by
 by_cases h20:l.length<=20
 .have HA:=Hq ha;clear ha;have aBN:decide (20 < (l.length:Int))=false:=decide_eq_false Aaa;go_in
  go_wp2_with fail;go_loopw [10] (λi wr=>∃k:Nat,k<=l.length/\i= .int .i64 k/\(List.range k).all (nL l)=true/\aI w wr) (λi _=>l.length - (intOf i).toNat)
  case atStart=>exact aaD
  case round=>
   obtain⟨k,hk,rfl,hall,hbel⟩:=hrel;have cK:=Hq hbel;have kS:=Hq hall;clear hall hbel;by_cases hlt:k < l.length
   .open apz in exact awx
   .exact aha
 .have HF:=Hq (show jk l=false by unfold jk;simp[h20]);have aBN:decide (20 < (l.length:Int))=true:=decide_eq_true Aaa;clear ha;go_in
  go_wp2_with fail;go_ret;exact⟨aF HF.symm,Below.refl _ _⟩
theorem lV:∀(vs:List Value) {w:World} {g o:Nat} {xs:List Value} {t:TypeId},w.heap[g]?=some (.cells xs.toArray t (0,0))->(w.setCells g o vs).heap[g]?=some (.cells (GR.setRun xs o vs).toArray t (0,0)):=by
 intro vs;induction vs with
 |nil=>intro w g o xs t h;exact h
 |cons v vs ih=>
  intro w g o xs t h;refine ih (xs:=xs.set o v) ?_;have:=Fo.blk_set h o v;simpa using this
theorem qc {g g':Nat} (hne:g'≠g):∀(vs:List Value) (w:World) (o:Nat),(w.setCells g o vs).heap[g']?=w.heap[g']?:=by
 intro vs;induction vs with
 |nil=>intro w o;rfl
 |cons v vs ih=>intro w o;exact(ih (w.setCell ⟨g,o,none⟩ v) (o+1)).trans (Below.heap_setCell _ _ _ _ hne)
theorem setCells_size {g:Nat}:∀(vs:List Value) (w:World) (o:Nat),(w.setCells g o vs).heap.size=w.heap.size:=by
 intro vs;induction vs with
 |nil=>intro w o;rfl
 |cons v vs ih=>intro w o;exact(ih (w.setCell ⟨g,o,none⟩ v) (o+1)).trans (Fo.setCell_size w _ v)
theorem gN {g:Nat}:∀(vs:List Value) (w:World) (o:Nat),(w.setCells g o vs).os=w.os/\(w.setCells g o vs).tape=w.tape/\(w.setCells g o vs).output=w.output:=by
 intro vs;induction vs with
 |nil=>intro w o;exact⟨rfl,rfl,rfl⟩
 |cons v vs ih=>intro w o;exact ih (w.setCell ⟨g,o,none⟩ v) (o+1)
theorem qb (w:World) (g o:Nat) (vs:List Value):w.grownBy (w.setCells g o vs) (some g):=
 ⟨(gN vs w o).1,(gN vs w o).2.1,(gN vs w o).2.2,by rw [setCells_size];exact Nat.le_refl _,λk _ hne=>qc (λe=>hne Aao) vs w o⟩
theorem qd (a m b vs:List Value) (h:vs.length=m.length):GR.setRun (a++(m++b)) a.length vs=a++(vs++b):=by
 have:=GR.setRun_append_right a vs 0 (m++b);rw [Nat.add_zero] at this;rw [this,GR.setRun_head vs m b h]
def wR (ks:List ByteArray) (i:Nat) (key:ByteArray):List Value:=(ks.map Value.string).take i++(.string key::(ks.map Value.string).drop i)
theorem nJ (ks:List ByteArray) (i:Nat) (key:ByteArray) (hi:i<=ks.length):(wR ks i key).length=ks.length+1:=by
 unfold wR;simp;omega
theorem zR (ks:List ByteArray):∀v∈ks.map Value.string,v.oneCell'=true:=by
 intro v hv;obtain⟨k,_,rfl⟩:=List.mem_map.1 hv;rfl
theorem axN (B:Nat) (v:Value) (l:List Pu) (key:ByteArray) (w:World) (hp:l.Pairwise Lv) (hl:l.length<=20) (h:w.ownsRow B 9 1 v l.length ((l.map (·.k)).map Value.string)):
 Calls prog 310 #[v,.string key] w λe w'=>e= .returned (.tuple #[.int .i64 (place l key:Nat),.bool (found l key)])/\∃q,w'=w.drewN q:=by
 by_cases h0:l.length=0
 .have hl0:l=[]:=List.eq_nil_of_length_eq_zero h0;subst hl0
  have hv:∃a c,v= .slice a 0 c:=by
   rcases h.2 with⟨rfl,_⟩|⟨g,cap,cur,rfl,_⟩
   .exact⟨none,0,rfl⟩
   .exact⟨_,_,rfl⟩
  obtain⟨a,c,rfl⟩:=hv;exact(Any2.slices_BinarySearch_string_empty ET a c key w).mono λe w' ⟨he,hw⟩=>⟨by rw [he];rfl,0,hw⟩
 .obtain⟨g,cap,rfl,_,_⟩:=h.form Aaa
  have hb:=Any2.slices_BinarySearch_string ET g 0 l.length cap (vF l key) key w Aaa (λj hj=>by
   have hc:=h.cellAt j Aaa
   rw [Nat.zero_add,hc]
   unfold vF
   simp[hj])
  rw [aaO hp key,Ow l key] at hb;exact hb
theorem Lr {w:World} {B g cap:Nat} {ks:List ByteArray} {i:Nat} {key:ByteArray} {bs:List Value} (hi:i<=ks.length) (hg:B<=g) (hcap:ks.length+1<=cap) (hcm:cap<=maxLen) (hlen:(wR ks i key++bs).length=cap)
 (h:w.heap[g]?=some (.cells (wR ks i key++bs).toArray 9 (0,0))):w.ownsRow B 9 1 (.slice (some ⟨g,0,none⟩) (ks.length+1) cap) (ks.length+1) (wR ks i key):=by
 have hl:=nJ ks i key hi;refine⟨Aaa,.inr ⟨g,cap,_,rfl,hg,h,hcap,hcm,by rw [List.size_toArray];omega,?_⟩⟩;rw [List.toList_toArray,Nat.mul_one,<-hl,List.take_left'];rfl
theorem uF (n:Nat):(Builtin.zeroCells (Value.string ⟨#[]⟩).cells n).toList.length=n:=by
 rw [Array.length_toList,size_zeroCells];simp[Value.cells]
theorem Bf (w:World) (o:Obj) (row:Option Nat):w.grownBy (w.drew.alloc o) row:=
 ⟨rfl,rfl,rfl,Aac,λk hk _=>Below.heap_alloc w.drew _ _ hk⟩
theorem Pw (ks:List ByteArray) (key:ByteArray):wR ks ks.length key=ks.map Value.string++[.string key]:=by
 unfold wR;rw [List.take_of_length_le Aac,List.drop_of_length_le Aac]
theorem EM (B:Nat) (base:Option Addr) (c:Nat) (ks:List ByteArray) (key:ByteArray) (vb:Nat) (w:World) (hn:ks.length<=20) (hB:B<=w.heap.size) (hnc:ks.length<=c) (hroom:c < ks.length+1) (hnil:base=none->ks.length=0)
 (hcs:∀a,base=some a->∀(j:Nat) (v:Value),(ks.map Value.string)[j]?=some v->w.cell? (a.add j)=some v)
 (hvs:∀(j:Nat) (u:Value),[Value.string key][j]?=some u->w.cell? ⟨vb,0+j,none⟩=some u) (h1v:∀u∈[Value.string key],u.oneCell'=true) (row:Option Nat):
 Calls prog 311 #[.slice base ks.length c,.int .i64 (ks.length:Nat),.slice (some ⟨vb,0,none⟩) 1 1] w λe w'=>∃v',e= .returned v'/\w'.ownsRow B 9 1 v' (ks.length+1) (wR ks ks.length key)/\w.grownBy w' row:=by
 refine(Any2.slices_Insert_string_end_grow tX base ks.length c vb 0 1 1 (ks.map Value.string) [.string key] w Aaa hnc hroom Aaa Aac rfl hnil hcs hvs h1v).mono λe w' ⟨he,hw⟩=>?_
 have hge:=grownCap_ge w (ks.length+1) c (uK.t 9);have hle:=grownCap_le_maxLen w (ks.length+1) c (uK.t 9) Aai;refine⟨_,he,?_,by rw [hw];exact Bf w _ row⟩;generalize grownCap w (ks.length+1) c (uK.t 9)=cap at *;refine Lr (w:=w') (bs:=(Builtin.zeroCells (Value.string ⟨#[]⟩).cells (cap - (ks.length+1))).toList) (Nat.le_refl _) hB hge hle ?_ ?_
 .rw [List.length_append,uF,nJ _ _ _ (Nat.le_refl _)];omega
 .rw [hw];have:=heap_alloc_new w.drew (.cells ((ks.map Value.string++[Value.string key]).toArray++Builtin.zeroCells (Value.string ⟨#[]⟩).cells (cap - (ks.length+1))) (uK.t 9));refine Eq.trans this ?_;rw [Pw]
  have e:(ks.map Value.string++[Value.string key]).toArray++Builtin.zeroCells (Value.string ⟨#[]⟩).cells (cap - (ks.length+1))=(ks.map Value.string++[Value.string key]++(Builtin.zeroCells (Value.string ⟨#[]⟩).cells (cap - (ks.length+1))).toList).toArray:=by
   apply Array.toList_inj.1
   simp
  rw [e];rfl
theorem akL (B:Nat) (v:Value) (ks:List ByteArray) (i:Nat) (key:ByteArray) (vb:Nat) (w:World) (hi:i<=ks.length) (hn:ks.length<=20) (hB:B<=w.heap.size) (h:w.ownsRow B 9 1 v ks.length (ks.map Value.string))
 (hv:w.heap[vb]?=some (.cells #[.string key] 9 (0,0))) (hvb:v.ownBlock≠some vb):
 Calls prog 311 #[v,.int .i64 (i:Nat),.slice (some ⟨vb,0,none⟩) 1 1] w λe w'=>∃v',e= .returned v'/\w'.ownsRow B 9 1 v' (ks.length+1) (wR ks i key)/\w.grownBy w' v.ownBlock:=by
 have hvs:∀(j:Nat) (u:Value),[Value.string key][j]?=some u->w.cell? ⟨vb,0+j,none⟩=some u:=λj u hu=>by
  rw [cell_of_row w vb _ _ 9 (0,0) hv,Nat.zero_add]
  simpa using hu
 have h1v:∀u∈[Value.string key],u.oneCell'=true:=λu hu=>by rw [List.mem_singleton.1 hu];rfl
 have hfree:∀j,w.frozen? ⟨vb,j,none⟩=false:=λj=>by unfold World.frozen?;rw [hv];simp
 have hsa:w.shape? vb=some (9,1):=by unfold World.shape?;rw [hv];rfl
 rcases h.2 with⟨rfl,h0⟩|⟨g,cap,cur,rfl,hg,hblk,hnc,hcm,hcs,htk⟩
 .have hi0:i=ks.length:=Aaa
  subst hi0;have:=EM B none 0 ks key vb w hn hB Aaa Aaa (λ_=>h0) (λa ha=>by cases ha) hvs h1v none;rw [h0] at this ⊢;exact this
 have aCj:vb≠g:=λe=>hvb (by rw [e];rfl)
 obtain⟨sp,hcur⟩:∃sp,cur.toList=ks.map Value.string++sp:=⟨cur.toList.drop ks.length,by
  rw [Nat.mul_one] at htk
  rw [<-htk,List.take_append_drop]⟩
 have hblk2:w.heap[g]?=some (.cells (ks.map Value.string++sp).toArray 9 (0,0)):=by rw [hblk,<-hcur]
 have abx:ks.length+sp.length=cap:=by
  have:=congrArg List.length hcur;rw [Array.length_toList,hcs] at this;simp at this;omega
 have hcell:∀j,w.cell? ⟨g,j,none⟩=(ks.map Value.string++sp)[j]?:=λj=>by
  rw [cell_of_row w g j _ 9 (0,0) hblk2]
  simp
 have hfz:∀j,w.frozen? ⟨g,j,none⟩=false:=λj=>by unfold World.frozen?;rw [hblk2];simp
 have akn:∀(j:Nat) (u:Value),(ks.map Value.string)[j]?=some u->w.cell? ⟨g,0+j,none⟩=some u:=λj u hu=>by
  rw [Nat.zero_add,hcell,List.getElem?_append_left (List.getElem?_eq_some_iff.1 hu).1]
  exact hu
 rcases Nat.lt_or_ge i ks.length with hlt|hge
 .obtain⟨ra,hra⟩:∃ra,ra=(ks.map Value.string).take i:=⟨_,rfl⟩;obtain⟨rb,hrb⟩:∃rb,rb=(ks.map Value.string).drop i:=⟨_,rfl⟩;have hsplit:ks.map Value.string=ra++rb:=by rw [hra,hrb,List.take_append_drop]
  have ayq:ra.length=i:=by rw [hra];simp;omega
  have aDz:rb.length=ks.length - i:=by rw [hrb];simp
  have hins:wR ks i key=ra++(.string key::rb):=by unfold wR;rw [<-hra,<-hrb]
  by_cases hroom:ks.length+1<=cap
  .have hsb:w.shape? g=some (9,cap):=by unfold World.shape?;rw [hblk2];simp;omega
   refine(Any2.slices_Insert_string_shift tX g 0 ks.length cap i vb 0 1 1 (ks.map Value.string) [.string key] w hlt Aaa hroom Acf aCj Aac rfl akn
    (λj hj=>by rw [Nat.zero_add,hcell];simp;omega) (λj _=>hfz _) hvs (zR ks) h1v 9 9 1 cap hsa hsb Aaa (hfree _) (hfree _)).mono λe w' ⟨he,hw⟩=>?_
   obtain⟨s0,sp',hsp⟩:∃s0 sp',sp=s0::sp':=by
    exact aiz
   obtain⟨x0,A,hxA,hAl⟩:∃x0 A,rb++[s0]=x0::A/\A.length=rb.length:=by
    cases hb:rb++[s0] with
    |nil=>simp at hb
    |cons x0 A=>
     refine⟨x0,A,rfl,?_⟩;have:=congrArg List.length hb;simp at this;omega
   have hxs:ks.map Value.string++sp=(ra++[x0])++(A++sp'):=by
    rw [hsplit,hsp];have:ra++rb++s0::sp'=ra++((rb++[s0])++sp'):=Aac
    rw [this,hxA];simp
   have e1:GR.setRun (ks.map Value.string++sp) (0+(i+1)) rb=(ra++[x0])++(rb++sp'):=by
    rw [hxs];have:=qd (ra++[x0]) A sp' rb hAl.symm;rw [show(ra++[x0]).length=0+(i+1) by simp;omega] at this;exact this
   have e2:GR.setRun ((ra++[x0])++(rb++sp')) (0+i) [.string key]=wR ks i key++sp':=by
    have:=qd ra [x0] (rb++sp') [.string key] rfl;rw [ayq] at this;rw [Nat.zero_add,hins];have e:(ra++[x0])++(rb++sp')=ra++([x0]++(rb++sp')):=Aac
    rw [e,this];simp
   refine⟨_,he,Lr (bs:=sp') hi hg hroom hcm ?_ ?_,?_⟩
   .rw [List.length_append,nJ ks i key hi];rw [hsp] at abx;simp at abx;omega
   .rw [hw,<-hrb];have h1:=lV rb (w:=w.drew) (o:=0+(i+1)) hblk2;rw [e1] at h1;have h2:=lV [.string key] (o:=0+i) h1;rw [e2] at h2;exact h2
   .rw [hw];have h1:=qb w.drew g (0+(i+1)) ((ks.map Value.string).drop i);have h2:=qb (w.drew.setCells g (0+(i+1)) ((ks.map Value.string).drop i)) g (0+i) [.string key];exact⟨h2.os.trans h1.os,h2.tape.trans h1.tape,h2.output.trans h1.output,Nat.le_trans h1.size h2.size,λk hk hne=>(h2.block k (Nat.lt_of_lt_of_le hk h1.size) hne).trans (h1.block k hk hne)⟩
  .have aCX:cap=ks.length:=Aaa
   refine(Any2.slices_Insert_string_grow tX g 0 ks.length cap i vb 0 1 1 (ks.map Value.string) [.string key] w hlt Aaa hnc Aaa Aaa Aac rfl akn hvs (zR ks) h1v).mono λe w' ⟨he,hw⟩=>?_
   have hge:=grownCap_ge w (ks.length+1) cap (uK.t 9);have hle:=grownCap_le_maxLen w (ks.length+1) cap (uK.t 9) Aai;generalize grownCap w (ks.length+1) cap (uK.t 9)=cap' at *;obtain⟨z1,hz1⟩:∃z1,z1=(Builtin.zeroCells (Value.string ⟨#[]⟩).cells (ks.length+1 - i)).toList:=⟨_,rfl⟩;obtain⟨z2,hz2⟩:∃z2,z2=(Builtin.zeroCells (Value.string ⟨#[]⟩).cells (cap' - (ks.length+1))).toList:=⟨_,rfl⟩;have aey:z1.length=ks.length+1 - i:=by rw [hz1,uF]
   have C9:z2.length=cap' - (ks.length+1):=by rw [hz2,uF]
   obtain⟨x0,A,hxA⟩:∃x0 A,z1=x0::A:=by
    cases z1 with
    |nil=>simp at aey;omega
    |cons x0 A=>exact⟨x0,A,rfl⟩
   have hAl:A.length=rb.length:=by rw [hxA] at aey;simp at aey;omega
   have hall:(w.alloc (.cells (((ks.map Value.string).take i).toArray++Builtin.zeroCells (Value.string ⟨#[]⟩).cells (ks.length+1 - i)++Builtin.zeroCells (Value.string ⟨#[]⟩).cells (cap' - (ks.length+1))) (uK.t 9))).heap[w.heap.size]?=some (.cells (ra++([x0]++(A++z2))).toArray 9 (0,0)):=by
    refine Eq.trans (heap_alloc_new w _) ?_
    have e:((ks.map Value.string).take i).toArray++Builtin.zeroCells (Value.string ⟨#[]⟩).cells (ks.length+1 - i)++Builtin.zeroCells (Value.string ⟨#[]⟩).cells (cap' - (ks.length+1))=(ra++([x0]++(A++z2))).toArray:=by
     apply Array.toList_inj.1
     rw [Array.toList_append,Array.toList_append,<-hz1,<-hz2,hxA,hra];simp
    rw [e];rfl
   have e1:GR.setRun (ra++([x0]++(A++z2))) i [.string key]=(ra++[.string key])++(A++z2):=by
    have:=qd ra [x0] (A++z2) [.string key] rfl;rw [ayq] at this;rw [this];simp
   have e2:GR.setRun ((ra++[.string key])++(A++z2)) (i+1) rb=wR ks i key++z2:=by
    have:=qd (ra++[.string key]) A z2 rb hAl.symm;rw [show(ra++[Value.string key]).length=i+1 by simp;omega] at this;rw [this,hins];simp
   refine⟨_,he,Lr (bs:=z2) hi hB hge hle ?_ ?_,?_⟩
   .rw [List.length_append,nJ ks i key hi];omega
   .rw [hw,<-hrb];have h1:=lV [.string key] (w:=(w.alloc (.cells (((ks.map Value.string).take i).toArray++Builtin.zeroCells (Value.string ⟨#[]⟩).cells (ks.length+1 - i)++Builtin.zeroCells (Value.string ⟨#[]⟩).cells (cap' - (ks.length+1))) (uK.t 9))).drew) (o:=i) hall;rw [e1] at h1;have h2:=lV rb (w:=((w.alloc (.cells (((ks.map Value.string).take i).toArray++Builtin.zeroCells (Value.string ⟨#[]⟩).cells (ks.length+1 - i)++Builtin.zeroCells (Value.string ⟨#[]⟩).cells (cap' - (ks.length+1))) (uK.t 9))).drew.setCells w.heap.size i [.string key]).drew) (o:=i+1) h1;rw [e2] at h2;exact h2
   .rw [hw];refine⟨?_,?_,?_,?_,?_⟩
    .rw [(gN _ _ _).1];exact(gN _ _ _).1
    .rw [(gN _ _ _).2.1];exact(gN _ _ _).2.1
    .rw [(gN _ _ _).2.2];exact(gN _ _ _).2.2
    .rw [setCells_size];refine Nat.le_trans ?_ (Nat.le_of_eq (setCells_size _ _ _).symm);show w.heap.size<=(w.alloc _).heap.size
     simp
    .intro k hk _;rw [qc Aaa];refine(qc (g:=w.heap.size) (g':=k) Aaa _ _ _).trans ?_;exact Below.heap_alloc w _ _ hk
 .have hie:i=ks.length:=Aaa
  subst hie;by_cases hroom:ks.length+1<=cap
  .refine(Any2.slices_Insert_string_end_room tX g 0 ks.length cap vb 0 1 1 [.string key] w Aaa hroom Acf rfl
    (λj hj=>by rw [Nat.zero_add,hcell];simp;omega) (λj _=>hfz _) hvs h1v).mono λe w' ⟨he,hw⟩=>?_
   obtain⟨s0,sp',hsp⟩:∃s0 sp',sp=s0::sp':=by
    exact aiz
   have e1:GR.setRun (ks.map Value.string++sp) (0+ks.length) [.string key]=wR ks ks.length key++sp':=by
    have:=qd (ks.map Value.string) [s0] sp' [.string key] rfl;rw [List.length_map] at this;rw [Nat.zero_add,hsp,Pw];have e:ks.map Value.string++s0::sp'=ks.map Value.string++([s0]++sp'):=Aac
    rw [e,this];simp
   refine⟨_,he,Lr (bs:=sp') (Nat.le_refl _) hg hroom hcm ?_ ?_,by rw [hw];exact qb w g (0+ks.length) [.string key]⟩
   .rw [List.length_append,nJ ks _ key (Nat.le_refl _)];rw [hsp] at abx;simp at abx;omega
   .rw [hw];have h1:=lV [.string key] (w:=w) (o:=0+ks.length) hblk2;rw [e1] at h1;exact h1
  .exact EM B (some ⟨g,0,none⟩) cap ks key vb w hn hB hnc Aaa (λha=>by cases ha) (λa ha j u hu=>by
    injection ha with ha
    subst ha
    have e:(⟨g,0,none⟩:Addr).add j=⟨g,0+j,none⟩:=by unfold Addr.add;split<;>simp_all
    rw [e]
    exact akn j u hu) hvs h1v (some g)
end Go.Proofs.YtohmklmkjmlpjaaGreatDoor
