/- Parts. -/
import Derived.Test.YtohmklmkjmlpjaaGreatDoorRk20
namespace Go.Proofs.YtohmklmkjmlpjaaGreatDoor
open Go.Proofs.Tryz
set_option maxHeartbeats 4000000
set_option maxRecDepth 100000
open Go.RowKit
open Mth
variable (a b:Option Addr) (ca cb:Nat) {n:Nd} {o:gK} {s:Sn} {m:Mg} {α:Type} {l:List α} {q:Rq} {w w':World} {key:ByteArray} {x low:Int} {i k:Nat} {p:Prop}
def kX (w:World) (p:Prop) (e:Ending) (w':World):Prop:=(∃r,e= .returned (.bool r)/\(r=true↔p))/\aI w w'
theorem kX.no (h:¬p) (hb:aI w w'):kX w p (.returned (.bool false)) w':=⟨⟨_,rfl,by simp[h]⟩,hb⟩
theorem kX.yes (h:p) (hb:aI w w'):kX w p (.returned (.bool true)) w':=⟨⟨_,rfl,by simp[h]⟩,hb⟩
theorem mU {m:List α} (hn:l.length=m.length) (hk:k < l.length) (h:l.take k=m.take k) (e:l[k]=m[k]):l.take (k+1)=m.take (k+1):=by rw [List.take_succ_eq_append_getElem hk,List.take_succ_eq_append_getElem Aaa,h,e]
theorem take_same {m:List α} (hn:l.length=m.length) (h:l.take l.length=m.take l.length):l=m:=by rwa [List.take_length,hn,List.take_length] at h
theorem JD {m:List α} (hk:k < l.length) (hk2:k < m.length) (h:l[k]≠m[k]):l≠m:=λe=>h (by subst e;rfl)
theorem fD {V:World} (n:Nat) (h:aI w V):Below w.heap.size w (V.drewN n):=⟨h.os,h.tape,h.output,h.size,h.block⟩
theorem BP {a b:ByteArray} (h:a≠b):(a.toList == b.toList)=false:=by
 cases e:(a.toList == b.toList) with
 |false=>rfl
 |true=>exact absurd (toList_inj (by simpa using e)) h
theorem Qn (l m:List Int) (w:World) (hl:l.length<=1048600) (ha:bX w a l) (hb:bX w b m):
 Calls prog 192 #[.slice a l.length ca,.slice b m.length cb] w (kX w (l=m)):=by
 by_cases hn:l.length=m.length
 case' neg=>
  open arA in exact NW
 have HN:=Hq hn;have HA:=Hq ha;have HB:=Hq hb;rw [<-hn];clear ha hb hn;go_in
 go_wp2_with fail;go_loopw [13] (λi wr=>∃k:Nat,k<=l.length/\i= .int .i64 k/\aI w wr/\Hid (l.take k=m.take k)) (λi _=>l.length - (intOf i).toNat)
 case atStart=>exact Oi
 case round=>
  obtain⟨k,hk,rfl,hbel,HT⟩:=hrel;have cK:=Hq hbel;clear hbel;by_cases hlt:k < l.length
  .open apf in exact aaj
  .exact aaI
theorem aeY (l m:List Pu) (w:World) (hl:l.length<=1048600) (ha:aG w a l) (hb:aG w b m):
 Calls prog 193 #[.slice a l.length ca,.slice b m.length cb] w (kX w (l=m)):=by
 by_cases hn:l.length=m.length
 case' neg=>
  open arz in exact NW
 have HN:=Hq hn;have HA:=Hq ha;have HB:=Hq hb;rw [<-hn];clear ha hb hn;go_in
 go_wp2_with fail;go_loopw [13] (λi wr=>∃k:Nat,k<=l.length/\i= .int .i64 k/\aI w wr/\Hid (l.take k=m.take k)) (λi _=>l.length - (intOf i).toNat)
 case atStart=>exact Oi
 case round=>
  obtain⟨k,hk,rfl,hbel,HT⟩:=hrel;have cK:=Hq hbel;clear hbel;by_cases hlt:k < l.length
  .open ape in exact aaj
  .exact aaI
theorem XU (l m:List jK) (w:World) (hl:l.length<=1048600) (ha:SentAt w a l) (hb:SentAt w b m):
 Calls prog 194 #[.slice a l.length ca,.slice b m.length cb] w (kX w (l=m)):=by
 by_cases hn:l.length=m.length
 case' neg=>
  open arx in exact NW
 have HN:=Hq hn;have HA:=Hq ha;have HB:=Hq hb;rw [<-hn];clear ha hb hn;go_in
 go_wp2_with fail;go_loopw [13] (λi wr=>∃k:Nat,k<=l.length/\i= .int .i64 k/\aI w wr/\Hid (l.take k=m.take k)) (λi _=>l.length - (intOf i).toNat)
 case atStart=>exact Oi
 case round=>
  obtain⟨k,hk,rfl,hbel,HT⟩:=hrel;have cK:=Hq hbel;clear hbel;by_cases hlt:k < l.length
  .open apd in exact aaj
  .exact aaI
theorem acI (l m:List Rq) (w:World) (hl:l.length<=1048600) (ha:fU w a l) (hb:fU w b m):
 Calls prog 197 #[.slice a l.length ca,.slice b m.length cb] w (kX w (l=m)):=by
 by_cases hn:l.length=m.length
 case' neg=>
  open arw in exact NW
 have HN:=Hq hn;have HA:=Hq ha;have HB:=Hq hb;rw [<-hn];clear ha hb hn;go_in
 go_wp2_with fail;go_loopw [13] (λi wr=>∃k:Nat,k<=l.length/\i= .int .i64 k/\aI w wr/\Hid (l.take k=m.take k)) (λi _=>l.length - (intOf i).toNat)
 case atStart=>exact Oi
 case round=>
  obtain⟨k,hk,rfl,hbel,HT⟩:=hrel;have cK:=Hq hbel;clear hbel;by_cases hlt:k < l.length
  .open apc in exact aaj
  .exact aaI
theorem yY (w:World) (a b:Obj):Below w.heap.size w ((w.alloc a).alloc b):=((Below.refl _ _).alloc (Nat.le_refl _) _).alloc Aac _
theorem aeP {m:Nd} (h0:n.id=m.id) (h1:n.par=m.par) (h3:n.next=m.next) (h7:n.old=m.old) (h2:n.kids=m.kids) (h4:n.pu=m.pu) (h5:n.out=m.out) (h6:n.seen=m.seen) (h8:n.reqs=m.reqs):n=m:=by
 cases n
 cases m
 simp_all
theorem acJ (x y:Sn) (a b:Option Addr) (ca cb:Nat) (w:World) (hl:x.ids.length<=1048600) (ha:bX w a x.ids) (hb:bX w b y.ids):
 Calls prog 196 #[.agg #[.int .i64 x.f,.int .i64 x.l,.slice a x.ids.length ca],.agg #[.int .i64 y.f,.int .i64 y.l,.slice b y.ids.length cb]] w (kX w (x=y)):=by
 obtain⟨f,l,ids⟩:=x;obtain⟨f2,l2,abD⟩:=y;dsimp only at hl ha hb ⊢;have hbz:=Hq (yY w (.cells #[.int .i64 f,.int .i64 l,.slice a ids.length ca] 110) (.cells #[.int .i64 f2,.int .i64 l2,.slice b abD.length cb] 110));have HC:=Hq (λW (h:aI w W)=>Qn a b ca cb ids abD W hl (ha.below h) (hb.below h));clear ha hb hl;by_cases hf:f=f2
 case' neg=>
  have hq:(f == f2)=false:=Acg
  have HP:=Hq (show¬(⟨f,l,ids⟩:Sn)=⟨f2,l2,abD⟩ from λh=>hf (congrArg Sn.f h));exact ain
 subst hf;by_cases hf:l=l2
 case' neg=>
  have hq:(l == l2)=false:=Acg
  have HP:=Hq (show¬(⟨f,l,ids⟩:Sn)=⟨f,l2,abD⟩ from λh=>hf (congrArg Sn.l h));exact ain
 subst hf;go_in
 go_wp2_with fail;refine(HC _ hbz).mono ?_;rintro e w1 ⟨⟨r,rfl,hr⟩,hb1⟩;have HR:=Hq (show r=true↔(⟨f,l,ids⟩:Sn)=⟨f,l,abD⟩ by rw [hr];simp);have cK:=Hq (Below.trans hbz (hb1.mono hbz.size));clear hb1 hbz hr HC;go_wp2_with fail;go_ret;exact⟨⟨r,rfl,HR⟩,cK⟩
theorem XT (l m:List Sn) (w:World) (hl:l.length<=1048600) (hi:∀s∈l,s.ids.length<=1048600) (ha:gZ w a l) (hb:gZ w b m):
 Calls prog 195 #[.slice a l.length ca,.slice b m.length cb,.func (.func 196) #[] #[]] w (kX w (l=m)):=by
 by_cases hn:l.length=m.length
 case' neg=>
  open arB in exact NW
 have HN:=Hq hn;have HA:=Hq ha;have HB:=Hq hb;have HI:=Hq hi;rw [<-hn];clear ha hb hn hi;go_in
 go_wp2_with fail;go_loopw [17] (λi wr=>∃k:Nat,k<=l.length/\i= .int .i64 k/\aI w wr/\Hid (l.take k=m.take k)) (λi _=>l.length - (intOf i).toNat)
 case atStart=>exact Oi
 case round=>
  obtain⟨k,hk,rfl,hbel,HT⟩:=hrel;have cK:=Hq hbel;clear hbel;by_cases hlt:k < l.length
  .open apg in exact aaj
  .exact aaI
theorem XR (n m:Nd) (A B:bQ) (w:World) (hz:eU n 1048576) (ha:dw w A n) (hb:dw w B m):
 Calls prog 163 #[gB n A,gB m B] w (kX w (n=m)):=by
 have HZ:=Hq hz;have HA:=Hq ha;have HB:=Hq hb;clear ha hb hz;by_cases hx:n.id=m.id
 case' neg=>
  have hq:(n.id == m.id)=false:=Aaf
  exact adS
 have qid:(n.id == m.id)=true:=Aaj
 have azU:=Hq hx;clear hx;by_cases hx:n.par=m.par
 case' neg=>
  have hq:(n.par == m.par)=false:=Aaf
  exact adS
 have azh:(n.par == m.par)=true:=Aaj
 have ajq:=Hq hx;clear hx;by_cases hx:n.next=m.next
 case' neg=>
  have hq:(n.next == m.next)=false:=Aaf
  exact adS
 have aiW:(n.next == m.next)=true:=Aaj
 have ZC:=Hq hx;clear hx;by_cases hx:n.old=m.old
 case' neg=>
  have hq:(n.old == m.old)=false:=Aaf
  exact adS
 have azg:(n.old == m.old)=true:=Aaj
 have Hold:=Hq hx;clear hx;go_in
 have h1:((w.alloc (.cells (dG n A) 40)).alloc (.cells (dG m B) 40)).heap[w.heap.size]?=some (.cells (dG n A) 40 (0,0)):=(Below.heap_alloc _ _ _ Aac).trans (heap_alloc_new w _)
 have h2:((w.alloc (.cells (dG n A) 40)).alloc (.cells (dG m B) 40)).heap[w.heap.size+1]?=some (.cells (dG m B) 40 (0,0)):=by
  have h:=heap_alloc_new (w.alloc (.cells (dG n A) 40)) (.cells (dG m B) 40);rwa [show(w.alloc (.cells (dG n A) 40)).heap.size=w.heap.size+1 by simp] at h
 have hbz:=yY w (.cells (dG n A) 40) (.cells (dG m B) 40);go_wp2_with fail;generalize (w.alloc (.cells (dG n A) 40)).alloc (.cells (dG m B) 40)=W0 at *;have HO:=Hq h1;have HP:=Hq h2;have HL:=Hq hbz;clear h1 h2 hbz;refine(Qn A.k B.k A.ck B.ck n.kids m.kids _ (Nat.le_trans HZ.k Aaa) (HA.below HL).k (HB.below HL).k).mono ?_;rintro e W ⟨⟨r,rfl,hr⟩,hb⟩;have Ao:=Hq (au HO hb);have qW:=Hq (au HP hb);have HL2:=Hq (HL.trans (hb.mono HL.size));clear hb HO HP HL;have HO:=Hq Ao;have HP:=Hq qW;have HL:=Hq HL2;clear Ao qW HL2;cases r
 case' false=>
  exact adU
 have ZA:=Hq (hr.1 rfl);clear hr;obtain⟨c0,c1,c2,c3,c4,c5,c6,c7,c8⟩:=nine HO;obtain⟨d0,d1,d2,d3,d4,d5,d6,d7,d8⟩:=nine HP;go_wp2_with fail;clear c0 c1 c2 c3 c4 c5 c6 c7 c8 d0 d1 d2 d3 d4 d5 d6 d7 d8;refine(aeY A.p B.p A.cp B.cp n.pu m.pu _ (Nat.le_trans HZ.p Aaa) (HA.below HL).p (HB.below HL).p).mono ?_;rintro e W ⟨⟨r,rfl,hr⟩,hb⟩;have Ao:=Hq (au HO hb);have qW:=Hq (au HP hb);have HL2:=Hq (HL.trans (hb.mono HL.size));clear hb HO HP HL;have HO:=Hq Ao;have HP:=Hq qW;have HL:=Hq HL2;clear Ao qW HL2;cases r
 case' false=>
  exact adU
 have Hpu:=Hq (hr.1 rfl);clear hr;obtain⟨c0,c1,c2,c3,c4,c5,c6,c7,c8⟩:=nine HO;obtain⟨d0,d1,d2,d3,d4,d5,d6,d7,d8⟩:=nine HP;go_wp2_with fail;clear c0 c1 c2 c3 c4 c5 c6 c7 c8 d0 d1 d2 d3 d4 d5 d6 d7 d8;refine(XU A.o B.o A.co B.co n.out m.out _ (Nat.le_trans HZ.o Aaa) (HA.below HL).o (HB.below HL).o).mono ?_;rintro e W ⟨⟨r,rfl,hr⟩,hb⟩;have Ao:=Hq (au HO hb);have qW:=Hq (au HP hb);have HL2:=Hq (HL.trans (hb.mono HL.size));clear hb HO HP HL;have HO:=Hq Ao;have HP:=Hq qW;have HL:=Hq HL2;clear Ao qW HL2;cases r
 case' false=>
  exact adU
 have azW:=Hq (hr.1 rfl);clear hr;obtain⟨c0,c1,c2,c3,c4,c5,c6,c7,c8⟩:=nine HO;obtain⟨d0,d1,d2,d3,d4,d5,d6,d7,d8⟩:=nine HP;go_wp2_with fail;clear c0 c1 c2 c3 c4 c5 c6 c7 c8 d0 d1 d2 d3 d4 d5 d6 d7 d8;refine(XT A.s B.s A.cs B.cs n.seen m.seen _ (Nat.le_trans HZ.s Aaa) (λs hs=>Nat.le_trans (HZ.sk s hs) Aaa) (HA.below HL).s (HB.below HL).s).mono ?_;rintro e W ⟨⟨r,rfl,hr⟩,hb⟩;have Ao:=Hq (au HO hb);have qW:=Hq (au HP hb);have HL2:=Hq (HL.trans (hb.mono HL.size));clear hb HO HP HL;have HO:=Hq Ao;have HP:=Hq qW;have HL:=Hq HL2;clear Ao qW HL2;cases r
 case' false=>
  exact adU
 have al7:=Hq (hr.1 rfl);clear hr;obtain⟨c0,c1,c2,c3,c4,c5,c6,c7,c8⟩:=nine HO;obtain⟨d0,d1,d2,d3,d4,d5,d6,d7,d8⟩:=nine HP;go_wp2_with fail;clear c0 c1 c2 c3 c4 c5 c6 c7 c8 d0 d1 d2 d3 d4 d5 d6 d7 d8;refine(acI A.r B.r A.cr B.cr n.reqs m.reqs _ (Nat.le_trans HZ.r Aaa) (HA.below HL).r (HB.below HL).r).mono ?_;rintro e W ⟨⟨r,rfl,hr⟩,hb⟩;have Ao:=Hq (au HO hb);have qW:=Hq (au HP hb);have HL2:=Hq (HL.trans (hb.mono HL.size));clear hb HO HP HL;have HO:=Hq Ao;have HP:=Hq qW;have HL:=Hq HL2;clear Ao qW HL2;have HR:=Hq (show r=true↔n=m from⟨λh=>aeP azU ajq ZC Hold ZA Hpu azW al7 (hr.1 h),λh=>hr.2 (by rw [h])⟩);clear hr;go_wp2_with fail;go_ret;exact⟨⟨r,rfl,HR⟩,HL⟩
namespace Mth
theorem zN (h1:eD n=true) (h2:jk n.pu=true) (h3:nQ n=true) (h4:fF n.next=true) (h5:rJ n=true) (h6:gX n=true):dW n=true:=by
 unfold dW;rw [h1,h2,h3,h4,h5,h6];rfl
theorem rA {l:List Pu} {dm df ds n:Int} (h:jk l=true):jk (dJ l key dm df ds n).1=true:=by
 unfold dJ qQ;split
 .rename_i hc
  simp only[Bool.and_eq_true] at hc;exact hc.2
 .exact h
theorem tZ {l:List Pu} (h:dW n=true) (hl:jk l=true):dW (setPu n l)=true:=by
 obtain⟨h1,_,h3,h4,h5,h6⟩:=bY h;exact zN h1 hl h3 h4 h5 h6
theorem KD {p:α->Bool} {f:α->Int} (h1:∀x∈l,p x=true) (h2:l.Pairwise (λs t=>f s < f t)):gU p (λs t=>iM (f s) (f t)) l=true:=
 (tF (p:=p) (r:=λs t=>iM (f s) (f t)) (λa b c h1 h2=>mJ _ _ _ h1 h2)).2 ⟨h1,h2.imp (λh=>Acr)⟩
theorem aeX (h1:0<=n.old) (h2:n.old<=1000000000) (h3:n.reqs.length<=30) (h4:n.reqs.Pairwise (λs t=>s.no < t.no)) (h5:∀q∈n.reqs,rU n q=true):gX n=true:=by
 unfold gX;rw [KD (f:=λr:Rq=>r.no) h5 h4];simp[qw,h1,h2,h3]
theorem Md (h1:n.old < q.no) (h2:q.no<=1000000000) (h3:keyOk q.k.data.toList=true) (h4:fF q.n=true) (h5:0<=q.s) (h6:q.s<=2):rU n q=true:=by
 unfold rU;rw [h3,h4];simp only[Bool.and_true,Bool.and_eq_true,decide_eq_true_eq];omega
theorem Pt (l:List Rq) (q:Rq):(vD l q).length=l.length+1:=by
 have:=wE l q.no;unfold vD;simp;omega
theorem abS {l:List Rq} {r:Rq} (h:r∈vD l q):r=q\/r∈l:=by
 unfold vD at h;rcases List.mem_append.1 h with h|h
 .exact .inr (List.mem_of_mem_take h)
 .rcases List.mem_cons.1 h with h|h
  .exact .inl h
  .exact .inr (List.mem_of_mem_drop h)
theorem abR {l:List Rq} (hp:l.Pairwise (λs t=>s.no < t.no)) (hf:nN l q.no=false):(vD l q).Pairwise (λs t=>s.no < t.no):=by
 have hlt:∀i (hi:i < l.length),dX l q.no<=i->q.no < l[i].no:=λi hi hle=>by
  have h1:=yC (no:=q.no) hp i hi hle
  rcases Int.lt_or_eq_of_le h1 with h|h
  .exact h
  .have:=(Qj hp hi h.symm).2;rw [hf] at this;cases this
 unfold vD;rw [List.pairwise_append,List.pairwise_cons];refine⟨hp.sublist (List.take_sublist _ _),⟨λr hr=>?_,hp.sublist (List.drop_sublist _ _)⟩,λr hr s hs=>?_⟩
 .obtain⟨i,hi,rfl⟩:=List.mem_iff_getElem.1 hr;rw [List.getElem_drop];exact hlt _ _ Aaa
 .obtain⟨i,hi,rfl⟩:=List.mem_iff_getElem.1 hr;rw [List.getElem_take];have hi':i < dX l q.no:=Abw
  have hil:i < l.length:=by have:=wE l q.no;omega
  have h1:=yD l q.no i hil hi';rcases List.mem_cons.1 hs with rfl|hs
  .exact h1
  .obtain⟨j,hj,rfl⟩:=List.mem_iff_getElem.1 hs;rw [List.getElem_drop];have:=hlt (dX l q.no+j) (by simp at hj;omega) Aaa;omega
theorem uf {l:List Rq} (h:dW n=true) (h1:0<=x) (h2:x<=1000000000) (h3:l.length<=30) (h4:l.Pairwise (λs t=>s.no < t.no)) (h5:∀q∈l,rU (nY n x) q=true):dW (eO (nY n x) l)=true:=by
 obtain⟨g1,g2,g3,g4,g5,_⟩:=bY h;exact zN g1 g2 g3 g4 g5 (aeX h1 h2 h3 h4 h5)
theorem Xv (h:dW n=true) (hf:nN n.reqs q.no=false) (h1:n.old < q.no) (h2:q.no<=1000000000) (h3:keyOk q.k.data.toList=true) (h4:fF q.n=true) (h5:0<=q.s) (h6:q.s<=2):dW (qH n q)=true:=by
 obtain⟨_,_,_,_,_,g6⟩:=bY h;obtain⟨a1,a2,a3,a4,a5⟩:=iX g6;have hasc:=abR a1 hf;have hlen:=Pt n.reqs q
 have hall:∀r∈vD n.reqs q,rU n r=true:=λr hr=>by
  rcases abS hr with rfl|hr
  .exact Md h1 h2 h3 h4 h5 h6
  .exact a3 r hr
 unfold qH;split
 .cases hc:vD n.reqs q with
  |nil=>rw [hc] at hlen;simp at hlen
  |cons r l=>
   rw [hc] at hasc hall hlen;have hp:=List.pairwise_cons.1 hasc;have hr:=jT (hall r Aac);simp only[List.headD_cons,List.tail_cons];refine uf h Aaa hr.2.1 (by simp at hlen;omega) hp.2 (λs hs=>?_);have b:=jT (hall s (by simp[hs]));exact Md (hp.1 s hs) b.2.1 b.2.2.1 b.2.2.2.1 b.2.2.2.2.1 b.2.2.2.2.2
 .rename_i hc
  have e:eO n (vD n.reqs q)=eO (nY n n.old) (vD n.reqs q):=rfl;rw [e];exact uf h a4 a5 Aaa hasc hall
theorem TH {no:Int} {a:Int} (h:dW n=true) (h2:no<=1000000000) (h3:keyOk key.data.toList=true) (h4:fF a=true):dW (fJ n no key a).1=true:=by
 unfold fJ;split
 .exact h
 .split
  .exact h
  .rename_i hs hf
   have hpu:=tZ (l:=(dJ n.pu key 0 (-1) 1 a).1) h (rA (bY h).2.1);refine Xv hpu ?_ ?_ h2 h3 h4 ?_ ?_
   .show nN n.reqs no=false
    simpa using hf
   .show n.old < no
    omega
   .dsimp only;split<;>omega
   .dsimp only;split<;>omega
theorem aa8 {l:List Rq} (hi:i < l.length):l.getD i default=l[i]:=by rw [List.getD_eq_getElem?_getD,List.getElem?_eq_getElem hi];rfl
theorem LC {no:Int} (h:dW n=true):dW (bf n no).1=true:=by
 unfold bf;split
 .exact h
 .split
  .exact h
  .split
   .exact h
   .split
    .exact h
    .split
     .rename_i hf _ _ hp
      obtain⟨hi,hno⟩:=(nO n.reqs no).1 Acg;have hpu:=tZ (l:=(dJ n.pu (n.reqs.getD (dX n.reqs no) default).k 0 1 (-1) (n.reqs.getD (dX n.reqs no) default).n).1) h (rA (bY h).2.1);obtain⟨_,_,_,_,_,g6⟩:=bY h;obtain⟨a1,a2,a3,a4,a5⟩:=iX g6;rw [aa8 hi] at hpu ⊢;have hb:=jT (a3 _ (List.getElem_mem hi));have e:∀l,eO (setPu n l) (n.reqs.set (dX n.reqs no) (oF n.reqs[dX n.reqs no]))=eO (nY (setPu n l) (setPu n l).old) (n.reqs.set (dX n.reqs no) (oF n.reqs[dX n.reqs no])):=λ_=>rfl
      rw [e];refine uf hpu a4 a5 (by simpa using a2) ?_ ?_
      .rw [List.pairwise_iff_getElem] at a1 ⊢;intro i j hi' hj' hij
       have e2:∀k (hk:k < (n.reqs.set (dX n.reqs no) (oF n.reqs[dX n.reqs no])).length),((n.reqs.set (dX n.reqs no) (oF n.reqs[dX n.reqs no]))[k]).no=(n.reqs[k]' Aci).no:=λk hk=>by
        rw [List.getElem_set]
        split
        .rename_i he;subst he;rfl
        .rfl
       rw [e2 i hi',e2 j hj'];exact a1 i j (by simpa using hi') (by simpa using hj') hij
      .intro q hq;rcases List.mem_or_eq_of_mem_set hq with hq|rfl
       .exact a3 q hq
       .exact Md (show n.old < _ by have:=hb.1;simp only[oF];omega) hb.2.1 hb.2.2.1 hb.2.2.2.1 (by simp[oF]) (by simp[oF])
     .exact h
theorem JC {dst:Int} {a:Int} (h:dW n=true) (hd:dZ n dst=true) (hk:keyOk key.data.toList=true) (ha:a<=1000000000):dW (eZ n dst key a).1=true:=by
 unfold eZ;split
 .rename_i hp
  obtain⟨g1,g2,g3,g4,g5,g6⟩:=bY h;obtain⟨o1,o2,o3⟩:=rM g5;unfold Qb at hp;have hp:=of_decide_eq_true hp;have hn:1<=n.next/\n.next<=1000000000:=by simpa [fF] using g4
  have hle:pO n key a<=1000000000:=by unfold pO;split<;>omega
  refine zN g1 (rA g2) g3 ?_ ?_ g6
  .show fF (n.next+1)=true
   unfold fF;simp only[decide_eq_true_eq];omega
  .unfold rJ;have e:(rP n dst key (pO n key a)).out=n.out++[⟨n.next,dst,key,pO n key a⟩]:=rfl;rw [e];rw [KD (f:=λr:jK=>r.i)]
   .simp;omega
   .intro s hs;have eB:∀s,uQ (rP n dst key (pO n key a)) s=(decide (1<=s.i/\s.i<=n.next+1 - 1)&&dZ n s.t&&keyOk s.k.data.toList&&fF s.n):=λ_=>rfl
    rw [eB];rcases List.mem_append.1 hs with hs|hs
    .have:=o3 s hs;unfold uQ at this;simp only[Bool.and_eq_true,decide_eq_true_eq] at this ⊢;exact⟨⟨⟨Aaa,this.1.1.2⟩,this.1.2⟩,this.2⟩
    .obtain rfl:s=⟨n.next,dst,key,pO n key a⟩:=by simpa using hs
     simp only[Bool.and_eq_true,decide_eq_true_eq];refine⟨⟨⟨Aaa,hd⟩,hk⟩,?_⟩;unfold fF;simp only[decide_eq_true_eq];omega
   .rw [List.pairwise_append];refine⟨o1,Aac,λs hs t ht=>?_⟩;obtain rfl:t=⟨n.next,dst,key,pO n key a⟩:=by simpa using ht
    have:=o3 s hs;unfold uQ at this;simp only[Bool.and_eq_true,decide_eq_true_eq] at this;show s.i < n.next
    omega
 .exact h
theorem Fv (h:dW n=true) {f:Int} (hf:dZ n f=true):∃hi:iA n.seen f < n.seen.length,n.seen[iA n.seen f].f=f:=by
 obtain⟨g1,_,g3,_,_,_⟩:=bY h;rw [wI g1,Bool.and_eq_true,decide_eq_true_eq] at g3;have hm:f∈n.seen.map (·.f):=by rw [g3.1,MH];exact(EY g1 f).1 hf
 obtain⟨s,hs,rfl⟩:=List.mem_map.1 hm;have hx:iA n.seen s.f < n.seen.length:=List.findIdx_lt_length_of_exists ⟨s,hs,Aac⟩;exact⟨hx,of_decide_eq_true (List.findIdx_getElem (p:=λt:Sn=>decide (t.f=s.f)) (w:=hx))⟩
theorem zX (h:dW n=true):∀s∈n.seen,uU s=true:=by
 obtain⟨g1,_,g3,_,_,_⟩:=bY h;rw [wI g1,Bool.and_eq_true] at g3;exact List.all_eq_true.1 g3.2
theorem sH (h:uU s=true):1<=s.l/\s.l<=1000000000/\s.ids.length<=40/\(∀x∈s.ids,s.l<=x/\x<=1000000000)/\s.ids.Pairwise (· < ·):=by
 unfold uU at h;simp only[Bool.and_eq_true,decide_eq_true_eq] at h;have h1:1<=s.l/\s.l<=1000000000:=by simpa [fF] using h.1.1
 have h2:=(tF (p:=Bh s.l) (r:=iM) mJ).1 h.2;exact⟨h1.1,h1.2,h.1.2,λx hx=>by simpa [Bh] using h2.1 x hx,h2.2.imp (λh=>Acr)⟩
theorem acL (h1:1<=s.l) (h2:s.l<=1000000000) (h3:s.ids.length<=40) (h4:∀x∈s.ids,s.l<=x/\x<=1000000000) (h5:s.ids.Pairwise (· < ·)):uU s=true:=by
 unfold uU;rw [(tF (p:=Bh s.l) (r:=iM) mJ).2 ⟨λx hx=>by simpa [Bh] using h4 x hx,h5.imp (λh=>Acr)⟩];simp[fF,h1,h2,h3]
theorem zO (hi:i < n.seen.length) (h:dW n=true) (hf:s.f=n.seen[i].f) (hs:uU s=true):dW (dM n (n.seen.set i s))=true:=by
 obtain⟨g1,g2,g3,g4,g5,g6⟩:=bY h;refine zN g1 g2 ?_ g4 g5 g6;have g1':eD (dM n (n.seen.set i s))=true:=g1;rw [wI g1',Bool.and_eq_true,decide_eq_true_eq];rw [wI g1,Bool.and_eq_true,decide_eq_true_eq] at g3;refine⟨?_,?_⟩
 .show(n.seen.set i s).map (·.f)=Yi (qy n)
  rw [<-g3.1,List.map_set,hf];apply List.ext_getElem?
  intro j;rw [List.getElem?_set];split
  .rename_i e
   subst e;simp[hi]
  .rfl
 .show(n.seen.set i s).all uU=true
  rw [List.all_eq_true];intro x hx;rcases List.mem_or_eq_of_mem_set hx with hx|rfl
  .exact List.all_eq_true.1 g3.2 x hx
  .exact hs
theorem Vu (h:uU s=true) (h1:low<=1000000000):1<=fE s low/\fE s low<=1000000000/\s.l<=fE s low/\low<=fE s low:=by
 have:=sH h;unfold fE;split<;>omega
theorem K7 (h:uU s=true) (h1:low<=1000000000):uU ⟨s.f,fE s low,aV s low⟩=true:=by
 have hl:=Vu h h1;obtain⟨a1,a2,a3,a4,a5⟩:=sH h;refine acL hl.1 hl.2.1 ?_ ?_ ?_
 .exact Nat.le_trans (List.length_filter_le _ _) a3
 .intro x hx;have:=List.mem_filter.1 hx;exact⟨by simpa using this.2,(a4 x this.1).2⟩
 .exact a5.sublist List.filter_sublist
theorem MO (x:Int):∀(l:List Int),∀y∈l.takeWhile (λy=>decide (y < x)),y < x:=by
 intro l;induction l with
 |nil=>intro y hy;simp at hy
 |cons z l ih=>
  intro y hy;by_cases hz:z < x
  .rw [List.takeWhile_cons_of_pos Acj] at hy;rcases List.mem_cons.1 hy with rfl|hy
   .exact hz
   .exact ih y hy
  .rw [List.takeWhile_cons_of_neg Acj] at hy;cases hy
theorem zh (x:Int):∀(l:List Int),l.Pairwise (· < ·)->∀y∈l.dropWhile (λy=>decide (y < x)),x<=y:=by
 intro l;induction l with
 |nil=>intro _ y hy;simp at hy
 |cons z l ih=>
  intro hp y hy;by_cases hz:z < x
  .rw [List.dropWhile_cons_of_pos Acj] at hy;exact ih (List.pairwise_cons.1 hp).2 y hy
  .rw [List.dropWhile_cons_of_neg Acj] at hy;rcases List.mem_cons.1 hy with rfl|hy
   .omega
   .have:=(List.pairwise_cons.1 hp).1 y hy;omega
theorem Ch (l:List Int) (x:Int):(lD l x).length=l.length+1:=by
 unfold lD;have:=congrArg List.length (List.takeWhile_append_dropWhile (p:=λy=>decide (y < x)) (l:=l));rw [List.length_append] at this;rw [List.length_append,List.length_cons];omega
theorem Pp {l:List Int} {y:Int}:y∈lD l x↔y=x\/y∈l:=by
 unfold lD;have e:=List.takeWhile_append_dropWhile (p:=λy=>decide (y < x)) (l:=l);constructor
 .intro h;rcases List.mem_append.1 h with h|h
  .exact .inr ((List.takeWhile_sublist _).mem h)
  .rcases List.mem_cons.1 h with h|h
   .exact .inl h
   .exact .inr ((List.dropWhile_sublist _).mem h)
 .rintro(rfl|h)
  .simp
  .rw [<-e] at h;rcases List.mem_append.1 h with h|h
   .exact List.mem_append.2 (.inl h)
   .exact List.mem_append.2 (.inr (List.mem_cons_of_mem _ h))
theorem Po {l:List Int} (hp:l.Pairwise (· < ·)) (hx:x∉l):(lD l x).Pairwise (· < ·):=by
 unfold lD;rw [List.pairwise_append,List.pairwise_cons];refine⟨hp.sublist (List.takeWhile_sublist _),⟨λy hy=>?_,hp.sublist (List.dropWhile_sublist _)⟩,λy hy z hz=>?_⟩
 .have h1:=zh x l hp y hy;have h2:y≠x:=λe=>hx (e▸(List.dropWhile_sublist _).mem hy)
  omega
 .have h1:=MO x l y hy;rcases List.mem_cons.1 hz with rfl|hz
  .exact h1
  .have h2:=zh x l hp z hz;omega
theorem Vo {i:Int} (h:rF s low i=false):fE s low<=i/\i∉aV s low:=by
 unfold rF at h;rw [Bool.or_eq_false_iff] at h;refine⟨by simpa using h.1,λhm=>?_⟩;rw [(zo _ _).2 hm] at h;cases h.2
theorem Dz {l:List Sn} (hi:i < l.length):l.getD i default=l[i]:=by rw [List.getD_eq_getElem?_getD,List.getElem?_eq_getElem hi];rfl
theorem Xw (h:dW n=true) (hd:dZ n m.F=true) (hL:m.L<=1000000000) (hI:m.I<=1000000000):dW (takeN n m).1=true:=by
 obtain⟨hi,hf⟩:=Fv h hd;have hs:=zX h _ (List.getElem_mem hi);unfold takeN;rw [Dz hi];split
 .exact air
 .split
  .rename_i h1 h2
   have h1':rF n.seen[iA n.seen m.F] m.L m.I=false:=Aaw
   obtain⟨b1,b2⟩:=Vo h1';have ho:=sH (K7 hs hL);have hl:=Vu hs hL;unfold lN at h2;simp only[Bool.and_eq_true,decide_eq_true_eq] at h2;have hpu:=tZ (l:=(dJ n.pu m.k 0 1 0 m.N).1) h (rA (bY h).2.1);refine zO (n:=setPu n (dJ n.pu m.k 0 1 0 m.N).1) hi hpu hf.symm ?_;refine acL hl.1 hl.2.1 ?_ ?_ ?_
   .show(lD (aV n.seen[iA n.seen m.F] m.L) m.I).length<=40
    rw [Ch];omega
   .intro x hx;rcases Pp.1 hx with rfl|hx
    .exact⟨b1,hI⟩
    .exact ho.2.2.2.1 x hx
   .exact Po ho.2.2.2.2 b2
  .exact air
theorem PU {p:jK->Bool} (h:dW n=true):dW (setOut n (n.out.filter p))=true:=by
 obtain⟨g1,g2,g3,g4,g5,g6⟩:=bY h;obtain⟨o1,o2,o3⟩:=rM g5;refine zN g1 g2 g3 g4 ?_ g6;unfold rJ;have e:(setOut n (n.out.filter p)).out=n.out.filter p:=rfl;rw [e,KD (f:=λr:jK=>r.i)]
 .simp only[Bool.and_true,decide_eq_true_eq];exact Nat.le_trans (List.length_filter_le _ _) o2
 .intro s hs;exact o3 s (List.mem_filter.1 hs).1
 .exact o1.sublist List.filter_sublist
theorem EW (h:cZ m=true) (hK:m.K=1):1<=m.I/\m.I<=1000000000/\1<=m.L/\m.L<=1000000000/\keyOk m.k.data.toList=true/\1<=m.N/\m.N<=1000000000:=by
 unfold cZ at h;simp[hK,fF] at h;refine⟨?_,?_,?_,?_,?_,?_,?_⟩<;>first|omega|simp_all
theorem JA (h:cZ m=true) (hK:m.K=0):keyOk m.k.data.toList=true/\1<=m.N/\m.N<=1000000000:=by
 unfold cZ at h;simp[hK,fF] at h;refine⟨?_,?_,?_⟩<;>first|omega|simp_all
theorem Jz (h:cZ m=true):m.K=0\/m.K=1\/m.K=2:=by
 unfold cZ at h;by_cases h0:m.K=0
 .exact .inl h0
 .by_cases h1:m.K=1
  .exact .inr (.inl h1)
  .by_cases h2:m.K=2
   .exact .inr (.inr h2)
   .exfalso
    simp[h0,h1,h2] at h
theorem Xu (h:dW n=true) (hm:cZ m=true) (hd:dZ n m.F=true):dW (fO n m).1=true:=by
 unfold fO;split
 .rename_i hK
  have hp:=EW hm hK;exact Xw h hd hp.2.2.2.1 hp.2.1
 .split
  .exact PU h
  .split
   .rename_i h1 h2 _
    have hK:m.K=0:=by rcases Jz hm with h|h|h<;>omega
    have hp:=JA hm hK;exact JC h hd hp.1 hp.2.2
   .exact h
theorem ace (h:dW n=true) (hp:¬n.par= -1):dZ n n.par=true:=by
 have:=(pY (bY h).1).2.2;unfold dZ;rw [decide_eq_true (show 0<=n.par by omega)];simp
theorem PY (h:cu o=true) (hK:o.K=0\/o.K=3\/o.K=4):keyOk o.k.data.toList=true/\1<=o.n/\o.n<=1000000000:=by
 unfold cu at h;rw [if_pos hK] at h;simp only[Bool.and_eq_true] at h;have:=h.1.1.2;unfold fF at this;have:=of_decide_eq_true this;exact⟨h.1.1.1,this.1,this.2⟩
theorem EZ (h:cu o=true) (hK:o.K=1):keyOk o.k.data.toList=true/\1<=o.n/\o.n<=1000000000/\1<=o.no/\o.no<=1000000000:=by
 unfold cu at h;rw [if_neg Aaa,if_pos hK] at h;simp only[Bool.and_eq_true] at h;have h1:=h.1.1.2;have h2:=h.1.2;unfold fF at h1 h2;have h1:=of_decide_eq_true h1;have h2:=of_decide_eq_true h2;exact⟨h.1.1.1,h1.1,h1.2,h2.1,h2.2⟩
theorem LJ (h:cu o=true) (hK:o.K=2):1<=o.no/\o.no<=1000000000:=by
 unfold cu at h;rw [if_neg Aaa,if_neg Aaa,if_pos hK] at h;simp only[Bool.and_eq_true] at h;have h2:=h.1.2;unfold fF at h2;exact of_decide_eq_true h2
theorem JG (h:cu o=true) (hK:o.K=6):cZ o.m=true:=by
 unfold cu at h;rw [if_neg Aaa,if_neg Aaa,if_neg Aaa,if_neg Aaa,if_pos hK] at h;simp only[Bool.and_eq_true] at h;exact h.2
theorem JH (h:cu o=true):o.K=0\/o.K=1\/o.K=2\/o.K=3\/o.K=4\/o.K=5\/o.K=6:=by
 exact aiK
theorem Eh (h:wY n o=true) (hK:o.K=6):o.m.T=n.id/\dZ n o.m.F=true:=by
 unfold wY at h;simpa [hK] using h
theorem acd (h:dW n=true) (ho:cu o=true) (ha:wY n o=true):dW (fu n o).1=true:=by
 unfold fu;split
 .split
  .exact tZ h (rA (bY h).2.1)
  .exact h
 .split
  .rename_i hK
   have hp:=EZ ho hK;exact TH h hp.2.2.2.2 hp.1 (by unfold fF;simp only[decide_eq_true_eq];omega)
  .split
   .exact LC h
   .split
    .split
     .exact h
     .exact h
    .split
     .split
      .exact h
      .rename_i hK hpar
       have hp:=PY ho Aaa;exact JC h (ace h hpar) hp.1 hp.2.2
     .split
      .exact h
      .have hK:o.K=6:=by rcases JH ho with h|h|h|h|h|h|h<;>omega
       exact Xu h (JG ho hK) (Eh ha hK).2
theorem acf (h:dW n=true):dW (mV n o).1=true:=by
 unfold mV;split
 .rename_i hc
  rw [Bool.and_eq_true] at hc;exact acd h hc.1 hc.2
 .exact h
theorem Vx (h:dW n=true):dW (YJ n o).1=true:=by rw [Sr h];exact acf h
end Mth
end Go.Proofs.YtohmklmkjmlpjaaGreatDoor
