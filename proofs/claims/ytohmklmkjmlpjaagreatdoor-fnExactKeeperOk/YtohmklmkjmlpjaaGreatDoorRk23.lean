/- Parts. -/
import Derived.Test.YtohmklmkjmlpjaaGreatDoorRk20
import Derived.Test.YtohmklmkjmlpjaaGreatDoorRk13
import Derived.Test.YtohmklmkjmlpjaaGreatDoorRk5
namespace Go.Proofs.YtohmklmkjmlpjaaGreatDoor
open Go.Proofs.Tryz
set_option maxHeartbeats 4000000
set_option maxRecDepth 100000
open Go.RowKit
open Mth
variable (a b:Option Addr) (ca cb:Nat) {w w':World} {mb n k g:Nat} {l:List Int} {α:Type} {p:Prop} {D:DataW Unit}
namespace Mth
def lF (w:World) (p:Prop) (e:Ending) (w':World):Prop:=(∃r,e= .returned (.bool r)/\(r=true↔p))/\aI w w'
theorem lF.no (h:¬p) (hb:aI w w'):lF w p (.returned (.bool false)) w':=⟨⟨_,rfl,by simp[h]⟩,hb⟩
theorem lF.yes (h:p) (hb:aI w w'):lF w p (.returned (.bool true)) w':=⟨⟨_,rfl,by simp[h]⟩,hb⟩
theorem jk {l m:List α} (hn:l.length=m.length) (hk:k < l.length) (h:l.take k=m.take k) (e:l[k]=m[k]):l.take (k+1)=m.take (k+1):=by rw [List.take_succ_eq_append_getElem hk,List.take_succ_eq_append_getElem Aaa,h,e]
theorem take_same {l m:List α} (hn:l.length=m.length) (h:l.take l.length=m.take l.length):l=m:=by rwa [List.take_length,hn,List.take_length] at h
theorem JA {l m:List α} (hk:k < l.length) (hk2:k < m.length) (h:l[k]≠m[k]):l≠m:=λe=>h (by subst e;rfl)
theorem fI {V:World} (n:Nat) (h:aI w V):Below w.heap.size w (V.drewN n):=⟨h.os,h.tape,h.output,h.size,h.block⟩
theorem BZ {a b:ByteArray} (h:a≠b):(a.toList == b.toList)=false:=by
 cases e:(a.toList == b.toList) with
 |false=>rfl
 |true=>exact absurd (toList_inj (by simpa using e)) h
theorem Qz (l m:List Int) (w:World) (hl:l.length<=1048600) (ha:bZ w a l) (hb:bZ w b m):
 Calls prog 192 #[.slice a l.length ca,.slice b m.length cb] w (lF w (l=m)):=by
 by_cases hn:l.length=m.length
 case' neg=>
  open au2 in exact Ol
 have HN:=Hq hn;have HA:=Hq ha;have HB:=Hq hb;rw [<-hn];clear ha hb hn;go_in
 go_wp2_with fail;go_loopw [13] (λi wr=>∃k:Nat,k<=l.length/\i= .int .i64 k/\aI w wr/\Hid (l.take k=m.take k)) (λi _=>l.length - (intOf i).toNat)
 case atStart=>exact OC
 case round=>
  obtain⟨k,hk,rfl,hbel,HT⟩:=hrel;have cZ:=Hq hbel;clear hbel;by_cases hlt:k < l.length
  .open ar0 in exact aaR
  .exact abk
theorem afC (l m:List Pu) (w:World) (hl:l.length<=1048600) (ha:aG w a l) (hb:aG w b m):
 Calls prog 193 #[.slice a l.length ca,.slice b m.length cb] w (lF w (l=m)):=by
 by_cases hn:l.length=m.length
 case' neg=>
  open au1 in exact Ol
 have HN:=Hq hn;have HA:=Hq ha;have HB:=Hq hb;rw [<-hn];clear ha hb hn;go_in
 go_wp2_with fail;go_loopw [13] (λi wr=>∃k:Nat,k<=l.length/\i= .int .i64 k/\aI w wr/\Hid (l.take k=m.take k)) (λi _=>l.length - (intOf i).toNat)
 case atStart=>exact OC
 case round=>
  obtain⟨k,hk,rfl,hbel,HT⟩:=hrel;have cZ:=Hq hbel;clear hbel;by_cases hlt:k < l.length
  .open arZ in exact aaR
  .exact abk
theorem Yx (l m:List jw) (w:World) (hl:l.length<=1048600) (ha:SentAt w a l) (hb:SentAt w b m):
 Calls prog 194 #[.slice a l.length ca,.slice b m.length cb] w (lF w (l=m)):=by
 by_cases hn:l.length=m.length
 case' neg=>
  open au0 in exact Ol
 have HN:=Hq hn;have HA:=Hq ha;have HB:=Hq hb;rw [<-hn];clear ha hb hn;go_in
 go_wp2_with fail;go_loopw [13] (λi wr=>∃k:Nat,k<=l.length/\i= .int .i64 k/\aI w wr/\Hid (l.take k=m.take k)) (λi _=>l.length - (intOf i).toNat)
 case atStart=>exact OC
 case round=>
  obtain⟨k,hk,rfl,hbel,HT⟩:=hrel;have cZ:=Hq hbel;clear hbel;by_cases hlt:k < l.length
  .open arY in exact aaR
  .exact abk
theorem adf (l m:List Rq) (w:World) (hl:l.length<=1048600) (ha:gF w a l) (hb:gF w b m):
 Calls prog 197 #[.slice a l.length ca,.slice b m.length cb] w (lF w (l=m)):=by
 by_cases hn:l.length=m.length
 case' neg=>
  open auZ in exact Ol
 have HN:=Hq hn;have HA:=Hq ha;have HB:=Hq hb;rw [<-hn];clear ha hb hn;go_in
 go_wp2_with fail;go_loopw [13] (λi wr=>∃k:Nat,k<=l.length/\i= .int .i64 k/\aI w wr/\Hid (l.take k=m.take k)) (λi _=>l.length - (intOf i).toNat)
 case atStart=>exact OC
 case round=>
  obtain⟨k,hk,rfl,hbel,HT⟩:=hrel;have cZ:=Hq hbel;clear hbel;by_cases hlt:k < l.length
  .open arX in exact aaR
  .exact abk
theorem zf (w:World) (a b:Obj):Below w.heap.size w ((w.alloc a).alloc b):=((Below.refl _ _).alloc (Nat.le_refl _) _).alloc Aac _
theorem afs {n m:Nd} (h0:n.id=m.id) (h1:n.par=m.par) (h3:n.next=m.next) (h7:n.old=m.old) (h2:n.kids=m.kids) (h4:n.pu=m.pu) (h5:n.out=m.out) (h6:n.seen=m.seen) (h8:n.reqs=m.reqs):n=m:=by
 cases n
 cases m
 simp_all
theorem adg (x y:Sn) (a b:Option Addr) (ca cb:Nat) (w:World) (hl:x.ids.length<=1048600) (ha:bZ w a x.ids) (hb:bZ w b y.ids):
 Calls prog 196 #[.agg #[.int .i64 x.f,.int .i64 x.l,.slice a x.ids.length ca],.agg #[.int .i64 y.f,.int .i64 y.l,.slice b y.ids.length cb]] w (lF w (x=y)):=by
 obtain⟨f,l,ids⟩:=x;obtain⟨f2,l2,ab7⟩:=y;dsimp only at hl ha hb ⊢;have hbz:=Hq (zf w (.cells #[.int .i64 f,.int .i64 l,.slice a ids.length ca] 110) (.cells #[.int .i64 f2,.int .i64 l2,.slice b ab7.length cb] 110));have HC:=Hq (λW (h:aI w W)=>Qz a b ca cb ids ab7 W hl (ha.below h) (hb.below h));clear ha hb hl;by_cases hf:f=f2
 case' neg=>
  have hq:(f == f2)=false:=Ach
  have HP:=Hq (show¬(⟨f,l,ids⟩:Sn)=⟨f2,l2,ab7⟩ from λh=>hf (congrArg Sn.f h));exact ajC
 subst hf;by_cases hf:l=l2
 case' neg=>
  have hq:(l == l2)=false:=Ach
  have HP:=Hq (show¬(⟨f,l,ids⟩:Sn)=⟨f,l2,ab7⟩ from λh=>hf (congrArg Sn.l h));exact ajC
 subst hf;go_in
 go_wp2_with fail;refine(HC _ hbz).mono ?_;rintro e w1 ⟨⟨r,rfl,hr⟩,hb1⟩;have HR:=Hq (show r=true↔(⟨f,l,ids⟩:Sn)=⟨f,l,ab7⟩ by rw [hr];simp);have cZ:=Hq (Below.trans hbz (hb1.mono hbz.size));clear hb1 hbz hr HC;go_wp2_with fail;go_ret;exact⟨⟨r,rfl,HR⟩,cZ⟩
theorem Yw (l m:List Sn) (w:World) (hl:l.length<=1048600) (hi:∀s∈l,s.ids.length<=1048600) (ha:iy w a l) (hb:iy w b m):
 Calls prog 195 #[.slice a l.length ca,.slice b m.length cb,.func (.func 196) #[] #[]] w (lF w (l=m)):=by
 by_cases hn:l.length=m.length
 case' neg=>
  open au3 in exact Ol
 have HN:=Hq hn;have HA:=Hq ha;have HB:=Hq hb;have HI:=Hq hi;rw [<-hn];clear ha hb hn hi;go_in
 go_wp2_with fail;go_loopw [17] (λi wr=>∃k:Nat,k<=l.length/\i= .int .i64 k/\aI w wr/\Hid (l.take k=m.take k)) (λi _=>l.length - (intOf i).toNat)
 case atStart=>exact OC
 case round=>
  obtain⟨k,hk,rfl,hbel,HT⟩:=hrel;have cZ:=Hq hbel;clear hbel;by_cases hlt:k < l.length
  .open ar1 in exact aaR
  .exact abk
theorem Yv (n m:Nd) (A B:bV) (w:World) (hz:eX n 1048576) (ha:dx w A n) (hb:dx w B m):
 Calls prog 163 #[fQ n A,fQ m B] w (lF w (n=m)):=by
 have HZ:=Hq hz;have HA:=Hq ha;have HB:=Hq hb;clear ha hb hz;by_cases hx:n.id=m.id
 case' neg=>
  have hq:(n.id == m.id)=false:=Aaf
  exact aeB
 have qid:(n.id == m.id)=true:=Aaj
 have aDP:=Hq hx;clear hx;by_cases hx:n.par=m.par
 case' neg=>
  have hq:(n.par == m.par)=false:=Aaf
  exact aeB
 have aDe:(n.par == m.par)=true:=Aaj
 have akC:=Hq hx;clear hx;by_cases hx:n.next=m.next
 case' neg=>
  have hq:(n.next == m.next)=false:=Aaf
  exact aeB
 have akc:(n.next == m.next)=true:=Aaj
 have aai:=Hq hx;clear hx;by_cases hx:n.old=m.old
 case' neg=>
  have hq:(n.old == m.old)=false:=Aaf
  exact aeB
 have aDd:(n.old == m.old)=true:=Aaj
 have Hold:=Hq hx;clear hx;go_in
 have h1:((w.alloc (.cells (dH n A) 40)).alloc (.cells (dH m B) 40)).heap[w.heap.size]?=some (.cells (dH n A) 40 (0,0)):=(Below.heap_alloc _ _ _ Aac).trans (heap_alloc_new w _)
 have h2:((w.alloc (.cells (dH n A) 40)).alloc (.cells (dH m B) 40)).heap[w.heap.size+1]?=some (.cells (dH m B) 40 (0,0)):=by
  have h:=heap_alloc_new (w.alloc (.cells (dH n A) 40)) (.cells (dH m B) 40);rwa [show(w.alloc (.cells (dH n A) 40)).heap.size=w.heap.size+1 by simp] at h
 have hbz:=zf w (.cells (dH n A) 40) (.cells (dH m B) 40);go_wp2_with fail;generalize (w.alloc (.cells (dH n A) 40)).alloc (.cells (dH m B) 40)=W0 at *;have HO:=Hq h1;have HP:=Hq h2;have HL:=Hq hbz;clear h1 h2 hbz;refine(Qz A.k B.k A.ck B.ck n.kids m.kids _ (Nat.le_trans HZ.k Aaa) (HA.below HL).k (HB.below HL).k).mono ?_;rintro e W ⟨⟨r,rfl,hr⟩,hb⟩;have Au:=Hq (au HO hb);have rz:=Hq (au HP hb);have HL2:=Hq (HL.trans (hb.mono HL.size));clear hb HO HP HL;have HO:=Hq Au;have HP:=Hq rz;have HL:=Hq HL2;clear Au rz HL2;cases r
 case' false=>
  exact aeD
 have aah:=Hq (hr.1 rfl);clear hr;obtain⟨c0,c1,c2,c3,c4,c5,c6,c7,c8⟩:=nine HO;obtain⟨d0,d1,d2,d3,d4,d5,d6,d7,d8⟩:=nine HP;go_wp2_with fail;clear c0 c1 c2 c3 c4 c5 c6 c7 c8 d0 d1 d2 d3 d4 d5 d6 d7 d8;refine(afC A.p B.p A.cp B.cp n.pu m.pu _ (Nat.le_trans HZ.p Aaa) (HA.below HL).p (HB.below HL).p).mono ?_;rintro e W ⟨⟨r,rfl,hr⟩,hb⟩;have Au:=Hq (au HO hb);have rz:=Hq (au HP hb);have HL2:=Hq (HL.trans (hb.mono HL.size));clear hb HO HP HL;have HO:=Hq Au;have HP:=Hq rz;have HL:=Hq HL2;clear Au rz HL2;cases r
 case' false=>
  exact aeD
 have Hpu:=Hq (hr.1 rfl);clear hr;obtain⟨c0,c1,c2,c3,c4,c5,c6,c7,c8⟩:=nine HO;obtain⟨d0,d1,d2,d3,d4,d5,d6,d7,d8⟩:=nine HP;go_wp2_with fail;clear c0 c1 c2 c3 c4 c5 c6 c7 c8 d0 d1 d2 d3 d4 d5 d6 d7 d8;refine(Yx A.o B.o A.co B.co n.out m.out _ (Nat.le_trans HZ.o Aaa) (HA.below HL).o (HB.below HL).o).mono ?_;rintro e W ⟨⟨r,rfl,hr⟩,hb⟩;have Au:=Hq (au HO hb);have rz:=Hq (au HP hb);have HL2:=Hq (HL.trans (hb.mono HL.size));clear hb HO HP HL;have HO:=Hq Au;have HP:=Hq rz;have HL:=Hq HL2;clear Au rz HL2;cases r
 case' false=>
  exact aeD
 have aDR:=Hq (hr.1 rfl);clear hr;obtain⟨c0,c1,c2,c3,c4,c5,c6,c7,c8⟩:=nine HO;obtain⟨d0,d1,d2,d3,d4,d5,d6,d7,d8⟩:=nine HP;go_wp2_with fail;clear c0 c1 c2 c3 c4 c5 c6 c7 c8 d0 d1 d2 d3 d4 d5 d6 d7 d8;refine(Yw A.s B.s A.cs B.cs n.seen m.seen _ (Nat.le_trans HZ.s Aaa) (λs hs=>Nat.le_trans (HZ.sk s hs) Aaa) (HA.below HL).s (HB.below HL).s).mono ?_;rintro e W ⟨⟨r,rfl,hr⟩,hb⟩;have Au:=Hq (au HO hb);have rz:=Hq (au HP hb);have HL2:=Hq (HL.trans (hb.mono HL.size));clear hb HO HP HL;have HO:=Hq Au;have HP:=Hq rz;have HL:=Hq HL2;clear Au rz HL2;cases r
 case' false=>
  exact aeD
 have ane:=Hq (hr.1 rfl);clear hr;obtain⟨c0,c1,c2,c3,c4,c5,c6,c7,c8⟩:=nine HO;obtain⟨d0,d1,d2,d3,d4,d5,d6,d7,d8⟩:=nine HP;go_wp2_with fail;clear c0 c1 c2 c3 c4 c5 c6 c7 c8 d0 d1 d2 d3 d4 d5 d6 d7 d8;refine(adf A.r B.r A.cr B.cr n.reqs m.reqs _ (Nat.le_trans HZ.r Aaa) (HA.below HL).r (HB.below HL).r).mono ?_;rintro e W ⟨⟨r,rfl,hr⟩,hb⟩;have Au:=Hq (au HO hb);have rz:=Hq (au HP hb);have HL2:=Hq (HL.trans (hb.mono HL.size));clear hb HO HP HL;have HO:=Hq Au;have HP:=Hq rz;have HL:=Hq HL2;clear Au rz HL2;have HR:=Hq (show r=true↔n=m from⟨λh=>afs aDP akC aai Hold aah Hpu aDR ane (hr.1 h),λh=>hr.2 (by rw [h])⟩);clear hr;go_wp2_with fail;go_ret;exact⟨⟨r,rfl,HR⟩,HL⟩
end Mth
open Go.RowKit Go.Maps
abbrev EL (x:Int):Lit:= .int .i64 x
theorem afe {a b:Int} (h:a≠b):EL a≠EL b:=λe=>h (by injection e)
theorem rC:Keyed prog 3:=int_keyed underlying3
theorem PY (x:Int) (h0:0<=x) (h1:x<=1000000000):keyOf prog 3 (.int .i64 x)=some (EL x):=keyOf_int_mk underlying3 (by simp only[Lit.wf,Bool.and_eq_true,decide_eq_true_eq];constructor<;>(first|omega|(unfold IntKind.min;simp;omega)|(unfold IntKind.max;simp;omega)|(simp[IntKind.min,IntKind.max,IntKind.bits,IntKind.signed];omega)))
theorem adL (w:World):(zeroValue 125).run prog w= .ok (.agg #[]) w:=Aab
def fH (w:World) (mb n:Nat) (l:List Int):Prop:=∃D:DataW Unit,w.ownsMap prog 3 unitElem mb n D/\∀x,Maps.has D (EL x)=decide (x∈l)
theorem fH.made (w:World):fH (w.alloc (.map #[] 0)) w.heap.size 0 []:=⟨_,World.ownsMap_made w _ _ _,λx=>by simp[Maps.has]⟩
theorem fH.lt (h:fH w mb n l):mb < w.heap.size:=h.choose_spec.1.lt
theorem fH.kept (h:fH w mb n l) (hb:w'.heap[mb]?=w.heap[mb]?):fH w' mb n l:=by
 exact ajT
theorem fH.mono {n':Nat} (h:fH w mb n l) (hn:n<=n'):fH w mb n' l:=by
 obtain⟨D,h1,h2⟩:=h;exact⟨D,h1.mono hn,h2⟩
theorem fH.same {l':List Int} (h:fH w mb n l) (he:∀x,x∈l↔x∈l'):fH w mb n l':=by
 obtain⟨D,h1,h2⟩:=h;exact⟨D,h1,λx=>by rw [h2 x,decide_eq_decide];exact he x⟩
theorem fH.look (h:fH w mb n l) (x:Int) (h0:0<=x) (h1:x<=1000000000):
 (Instr.lookup 291 (.map (some mb)) (.int .i64 x) true).run prog w= .ok (.tuple #[.agg #[],.bool (decide (x∈l))]) w:=by
 obtain⟨D,hown,ha⟩:=h;obtain⟨v,ps,hrun,hv⟩:=hown.look_ok rC underlying291 (adL w) unitElem_mk (PY x h0 h1);rw [hrun,ha x,(unitElem_inv hv).1]
theorem fH.store (h:fH w mb n l) (x:Int) (h0:0<=x) (h1:x<=1000000000) (hn:n < maxLen):
 ∃w',(Instr.mapUpdate 291 (.map (some mb)) (.int .i64 x) (.agg #[])).run prog w= .ok () w'/\fH w' mb (n+1) (x::l)/\Keeps mb w w':=by
 obtain⟨D,hown,ha⟩:=h;obtain⟨w',hrun,g1,g2⟩:=hown.store rC underlying291 hn (PY x h0 h1) unitElem_mk;refine⟨w',hrun,⟨_,g1,λy=>?_⟩,nY g2⟩;by_cases e:y=x
 .subst e;rw [has_put_same hown.isMap (show WideAt.IsKeyLit (EL y) from trivial)];simp
 .rw [has_put_other (afe e),ha y];simp[e]
theorem fH.keys (hown:w.ownsMap prog 3 unitElem mb n D) (ha:∀x,Maps.has D (EL x)=decide (x∈l)) (hl:l.Nodup):l.Perm (intKeys D):=by
 obtain⟨es,hD,hpw,_⟩:=hown.entries rC;obtain⟨es',hD',hko⟩:=hown.keysOf;obtain rfl:es=es':=by rw [hD] at hD';simpa using hD'
 subst hD;exact perm_intKeys hpw (λp hp=>by obtain⟨v,hv⟩:=hko p hp;obtain⟨x,_,hx,_⟩:=Maps.keyOf_i64 underlying3 hv;exact⟨x,hx⟩) hl (λx=>by rw [ha x];simp)
theorem JR (hown:w.ownsMap prog 3 unitElem mb n D):Maps.size D=(intKeys D).length:=by
 obtain⟨es,hD,_⟩:=hown.entries rC;subst hD;simp[Maps.size,intKeys]
theorem fH.len (h:fH w mb n l) (hl:l.Nodup) (ty:TypeId):(Builtin.len_ #[291] ty #[.map (some mb)]).run prog w= .ok (.int .i64 l.length) w:=by
 obtain⟨D,hown,ha⟩:=h;rw [hown.len underlying291 ty,JR hown,(fH.keys hown ha hl).length_eq]
theorem alW (B sb mb:Nat) (low x:Int) (w:World) (h1:w.heap[B]?=some (.cells #[.pointer (some ⟨sb,0,none⟩)] 264 (0,0))) (h2:w.heap[sb]?=some (.cells #[.int .i64 low,.map (some mb)] 293 (0,0))):
 Calls prog 266 #[.int .i64 x,.agg #[],.pointer (some ⟨B,0,none⟩)] w (eO w (.bool (decide (x < low)))):=by
 have hB:=aA h1;have hS:=aA h2;have c0:w.cell? ⟨B,0,none⟩=some (.pointer (some ⟨sb,0,none⟩)):=cell_of_row w B 0 _ _ (0,0) h1;have c1:w.cell? ⟨sb,0,none⟩=some (.int .i64 low):=cell_of_row w sb 0 _ _ (0,0) h2;clear h1 h2;go_in
 exact Vw
def zI (low:Int):Lit->DataW Unit->Bool
 | .int _ x,_=>decide (x < low)
 |_,_=>false
theorem Xw {es:List (Lit×DataW Unit)} (low:Int) (hown:w.ownsMap prog 3 unitElem mb n (.map es)) (ha:∀x,Maps.has (.map es) (EL x)=decide (x∈l)) (x:Int):
 Maps.has (Lib.deleteFuncD (zI low) (.map es)) (EL x)=decide (x∈l.filter (λx=>decide (low<=x))):=by
 obtain⟨es',hD',hko⟩:=hown.keysOf;obtain rfl:es=es':=by simpa using hD'
 have hx:=ha x;rw [Bool.eq_iff_iff,decide_eq_true_iff,has_eq,List.any_eq_true] at hx;show Maps.has (.map (es.filter λp=> !zI low p.1 p.2)) (EL x)=_
 rw [Bool.eq_iff_iff,decide_eq_true_iff,has_eq,List.any_eq_true,List.mem_filter,<-hx,decide_eq_true_iff];constructor
 .rintro⟨p,hp,hs⟩;obtain⟨hp1,hp2⟩:=List.mem_filter.1 hp;refine⟨⟨p,hp1,hs⟩,?_⟩;obtain⟨v,hv⟩:=hko p hp1;obtain⟨y,_,hy,_⟩:=Maps.keyOf_i64 underlying3 hv;rw [hy] at hs hp2;have e:y=x:=by simpa [Lit.sameKey] using hs
  subst e;simpa [zI] using hp2
 .rintro⟨⟨p,hp1,hs⟩,hle⟩;obtain⟨v,hv⟩:=hko p hp1;obtain⟨y,_,hy,_⟩:=Maps.keyOf_i64 underlying3 hv;have hs':=hs;rw [hy] at hs';have e:y=x:=by simpa [Lit.sameKey] using hs'
  subst e;exact⟨p,List.mem_filter.2 ⟨hp1,by rw [hy];simpa [zI] using hle⟩,hs⟩
theorem EZ {b:Nat} (g:w.grownBy w' (some b)):_root_.Go.Proofs.YtohmklmkjmlpjaaGreatDoor.Keeps b w w':=⟨g.os,g.tape,g.output,g.size,λk hk hne=>g.block k hk (λe=>hne (Option.some.inj e))⟩
theorem gW (h:aI w w') (row:Option Nat):w.grownBy w' row:=⟨h.os,h.tape,h.output,h.size,λk hk _=>h.block k hk⟩
theorem alh (B sb mb n:Nat) (low:Int) (l:List Int) (w:World) (h1:w.heap[B]?=some (.cells #[.pointer (some ⟨sb,0,none⟩)] 264 (0,0))) (h2:w.heap[sb]?=some (.cells #[.int .i64 low,.map (some mb)] 293 (0,0))) (hs:fH w mb n l):
 Calls prog 265 #[.map (some mb),.func (.func 266) #[] #[.pointer (some ⟨B,0,none⟩)]] w λe w'=>e= .returned (.tuple #[])/\fH w' mb n (l.filter (λx=>decide (low<=x)))/\Keeps mb w w':=by
 obtain⟨D,hown,ha⟩:=hs;obtain⟨es0,rfl,hap,hkeys⟩:=hown.entries rC;have hmap:∃es clock,w.heap[mb]?=some (.map es clock):=by obtain⟨es,clock,hb,_⟩:=hown;exact⟨es,clock,hb⟩
 obtain⟨es1,clock1,hmb⟩:=hmap;have hBm:B≠mb:=λe=>by rw [e,hmb] at h1;cases h1
 have hSm:sb≠mb:=λe=>by rw [e,hmb] at h2;cases h2
 have HA:=Hq (Xw (n:=n) low hown ha);have HD:=Hq (fun(W:World) (x:Int) (hg:w.grownBy W (some mb))=>alW B sb mb low x W ((hg.block B (aA h1) (by simpa using hBm)).trans h1) ((hg.block sb (aA h2) (by simpa using hSm)).trans h2));clear h1 h2 hmb hBm hSm ha;go_in
 go_wp2_with (first
  |(at_range;refine wpList_range_own _ rfl _ 291 rfl 3 125 rC underlying291 unitElem mb n _ rfl hown ?_;intro w0 hrg0 hg0 hs0)
  |go_in)
 go_frame
 go_loopw [8] (λ_ wr=>∃(left:Lit->Bool) (cnt:Nat),wr.ranges prog 3 unitElem mb w.heap.size n (Fk (zI low) es0 left) left cnt/\w.grownBy wr (some mb))
  (λ_ wr=>wr.rangeLeft mb w.heap.size)
 case atStart=>exact⟨_,_,by rw [Fk_start hkeys];exact hrg0,hg0.but _⟩
 case round=>
  obtain⟨left,cnt,hrg,hgw⟩:=hrel
  go_wp2_with (first
   |(at_next;refine wpList_next_ranges _ rfl _ rfl 3 rC unitElem (Value.int .i64) (λ_:Unit=>Value.agg #[]) (λkey kl hk=>by obtain⟨x,hx,_⟩:=Maps.keyOf_i64 underlying3 hk;exact⟨x,hx⟩) (λv y hv=>⟨(),(unitElem_inv hv).1⟩) mb w.heap.size n _ _ _ rfl hrg ?_ ?_)
   |go_in)
  ·
   intro _ hl0
   go_wp2_with fail
   go_end0
   refine⟨rfl,⟨_,?_,HA⟩,EZ hgw⟩
   rw [<-Fk_end hl0]
   exact hrg.owns
  ·
   intro x kl yd yp w1 cnt1 hkey hlx hv hat hrg1 hlt hg1 hs1 hen
   obtain⟨x',ex,rfl,_⟩:=Maps.keyOf_i64 underlying3 hkey
   cases ex
   have hgw1:=hgw.andThen hg1 (λj hj=>by cases hj;exact Or.inl (Nat.le_refl _))
   have hc:=Hq (HD (w1.alloc (.cells #[] 125)) x (hgw1.andThen (World.grownBy_alloc w1 _ none) (λj hj=>by cases hj)))
   have aCz:=hrg1.alloc (.cells #[] 125)
   have hgA:=hgw1.andThen (World.grownBy_alloc w1 (.cells #[] 125) none) (λj hj=>by cases hj)
   by_cases hx:x < low
   .have hp:zI low (EL x) yd=true:=by simpa [zI] using hx
    have hq:decide (x < low)=true:=Aaf
    go_wp2_with (first
     |(go_at_call 266;refine hc.mono ?_;rintro e w2 ⟨rfl,hb2⟩;have hrg2:=aCz.kept (gW hb2 none) Aac Aac)
     |(at_delete;refine wpList_delete_ranges _ rfl _ _ 291 3 rfl 125 rC underlying291 unitElem mb w.heap.size n _ _ _ rfl hrg2 _ _ rfl hkey ?_;intro w3 cnt3 hrg3 hle hturn;go_frame)
     |go_in)
    rw [strike_twice] at hrg3;go_roundw
    case rel=>exact⟨_,cnt3,by rw [<-Fk_struck hap (rC.key hkey) hlx hp hat];exact hrg3,(hgA.andThen (gW hb2 none) (λj hj=>by cases hj)).andThen hturn.grown (λj hj=>by cases hj;exact Or.inr rfl)⟩
    case measure=>rw [hrg3.left_eq,hrg.left_eq];omega
   .have hp:zI low (EL x) yd=false:=by simpa [zI] using hx
    have hq:decide (x < low)=false:=Aaf
    go_wp2_with (first
     |(go_at_call 266;refine hc.mono ?_;rintro e w2 ⟨rfl,hb2⟩;have hrg2:=aCz.kept (gW hb2 none) Aac Aac)
     |go_in)
    go_roundw
    case rel=>exact⟨_,cnt1,by rw [<-Fk_stays hap (rC.key hkey) hlx hp hat];exact hrg2,hgA.andThen (gW hb2 none) (λj hj=>by cases hj)⟩
    case measure=>rw [hrg2.left_eq,hrg.left_eq];exact hlt
abbrev kQ (w:World) (sb mb:Nat) (low:Int):Prop:=w.heap[sb]?=some (.cells #[.int .i64 low,.map (some mb)] 293 (0,0))
theorem aC.of_keeps (h:Keeps g w w'):aC [g] w w':=⟨h.os,h.tape,h.output,h.size,λk hk hg=>h.block k hk (by simpa using hg)⟩
theorem fH.ne {sb:Nat} {low:Int} (h:fH w mb n l) (hs:kQ w sb mb low):sb≠mb:=λe=>by
 obtain⟨D,⟨es,clock,hb,_⟩,_⟩:=h;unfold kQ at hs;rw [e,hb] at hs;cases hs
theorem fH.far {cs:Array Value} {t:TypeId} {q:Nat×Nat} (h:fH w mb n l) (hs:w.heap[g]?=some (.cells cs t q)):g≠mb:=λe=>by
 obtain⟨D,⟨es,clock,hb,_⟩,_⟩:=h;rw [e,hb] at hs;cases hs
theorem alu (sb mb n:Nat) (low x:Int) (l:List Int) (w:World) (h0:0<=x) (h1:x<=1000000000) (hb:kQ w sb mb low) (hs:fH w mb n l):
 Calls prog 247 #[.pointer (some ⟨sb,0,none⟩),.int .i64 x] w (eO w (.bool (decide (x < low)||decide (x∈l)))):=by
 have hsl:=aA hb;obtain⟨⟨m0,m1⟩,_⟩:=mD hb;have hrun:=hs.look x h0 h1;clear hb hs;cases hm:decide (x∈l)
 .rw [hm] at hrun;go_in
  exact Vw
 .rw [hm] at hrun;go_in
  exact Vw
theorem afn (sb mb n:Nat) (aCP low L:Int) (l:List Int) (w:World) (hL:max aCP low=L) (hb:kQ w sb mb aCP) (hs:fH w mb n l):
 Calls prog 246 #[.pointer (some ⟨sb,0,none⟩),.int .i64 low] w λe w'=>e= .returned (.tuple #[])/\kQ w' sb mb L/\fH w' mb n (l.filter (λx=>decide (L<=x)))/\aC [sb,mb] w w':=by
 have hsl:=aA hb;have hml:=hs.lt;have hne:=hs.ne hb;have HB:=Hq hb;have HS:=Hq hs;obtain⟨⟨m0,m1⟩,f0,f1⟩:=mD hb;have HL:=Hq hL;clear hb hs hL;go_in
 go_upto_region 2 with fail;go_region
 rw [ah HL];go_upto_region 2 with fail;refine wp_at (λW hW=>?_);have hsz:(w.setCell ⟨sb,0,none⟩ (.int .i64 L)).heap.size=w.heap.size:=Aar
 have e1:W.heap[w.heap.size]?=some (.cells #[.pointer (some ⟨sb,0,none⟩)] 264 (0,0)):=by
  rw [hW,<-hsz];exact heap_alloc_new _ _
 have e2:kQ W sb mb L:=by
  have h1:(w.setCell ⟨sb,0,none⟩ (.int .i64 L)).heap[sb]?=some (.cells #[.int .i64 L,.map (some mb)] 293 (0,0)):=aR HB 0 (.int .i64 L);rw [hW];exact(Below.heap_alloc _ _ _ (by rw [hsz];exact hsl)).trans h1
 have e3:fH W mb n l:=HS.kept (by
  rw [hW]
  exact(Below.heap_alloc _ _ _ (by rw [hsz];exact hml)).trans (Below.heap_setCell _ _ _ _ hne.symm))
 have e4:aC [sb,mb] w W:=by
  rw [hW];refine⟨rfl,rfl,rfl,Aar,λk hk hkn=>?_⟩;have h1:k≠sb:=λe=>hkn (by simp[e])
  exact(Below.heap_alloc _ _ _ (by rw [hsz];exact hk)).trans (Below.heap_setCell _ _ _ _ h1)
 have m0:W.cell? ⟨w.heap.size,0,none⟩=some (.pointer (some ⟨sb,0,none⟩)):=cell_of_row W _ 0 _ _ (0,0) e1;obtain⟨⟨m1,m2⟩,_⟩:=mD e2;have hwl:=aA e1;have hsl2:=aA e2;have HD:=Hq (alh w.heap.size sb mb n L l W e1 e2 e3);have E2:=Hq e2;have E4:=Hq e4;clear hW e1 e2 e3 e4 HB HS;go_wp2_with fail;refine HD.mono ?_;rintro e w' ⟨rfl,g1,g2⟩;have G1:=Hq g1;have G2:=Hq g2;clear g1 g2 HD m0 m1 m2;go_wp2_with fail;refine bodyPost_end (v:= .tuple #[]) (by simp[results,results246,go_sem]) rfl ⟨rfl,?_,G1,E4.trans ((aC.of_keeps G2).mono Aac)⟩;unfold kQ;rw [(ah G2).block sb hsl2 hne];exact E2
theorem setOf (f low:Int) (a:Option Addr) (cap:Nat) (ids:List Int) (w:World) (hl:ids.length<=40) (hb:∀x∈ids,0<=x/\x<=1000000000) (ha:bZ w a ids):
 Calls prog 245 #[.agg #[.int .i64 f,.int .i64 low,.slice a ids.length cap]] w λe w'=>∃sb mb,e= .returned (.pointer (some ⟨sb,0,none⟩))/\w.heap.size<=sb/\w.heap.size<=mb/\kQ w' sb mb low/\fH w' mb ids.length ids/\aI w w':=by
 have hmm:= @run_makeMap prog;have HA:=Hq ha;have HBD:=Hq hb;clear ha hb;go_in
 go_wp2_with fail;go_loopw [14] (λi wr=>∃k:Nat,k<=ids.length/\i= .int .i64 k/\kQ wr (w.heap.size+1+1) (w.heap.size+1) low/\fH wr (w.heap.size+1) k (ids.take k)/\aI w wr) (λi _=>ids.length - (intOf i).toNat)
 case atStart=>
  have hz:∀(u:World) (o:Obj),(u.alloc o).heap.size=u.heap.size+1:=λu o=>by simp
  have hM:=fH.made (w.alloc (.cells #[.int .i64 f,.int .i64 low,.slice a ids.length cap] 110));have hS:=heap_alloc_new ((w.alloc (.cells #[.int .i64 f,.int .i64 low,.slice a ids.length cap] 110)).alloc (.map #[] 0)) (.cells #[.int .i64 low,.map (some (w.heap.size+1))] 293);rw [hz] at hM;rw [hz,hz] at hS;refine⟨0,Nat.zero_le _,rfl,hS,?_,?_⟩
  .refine hM.kept ?_;exact Below.heap_alloc _ _ _ (by rw [hz,hz];omega)
  .exact((ay w _).alloc (by rw [hz];omega) _).alloc (by rw [hz,hz];omega) _
 case round=>
  obtain⟨k,hk,rfl,hS,hI,hbw⟩:=hrel;have HS:=Hq hS;have HI:=Hq hI;have iR:=Hq hbw;obtain⟨⟨m0,m1⟩,_⟩:=mD hS;have hsl:=aA hS;clear hS hI hbw hmm;by_cases hlt:k < ids.length
  .obtain⟨g,off,rfl,hgw,q0⟩:=bZ.one (GR.At.below HA iR) k hlt;have HB:=Hq (HBD ids[k] (List.getElem_mem hlt));have HT:=Hq (show∀x,x∈ids[k]::ids.take k↔x∈ids.take (k+1) from λx=>by rw [List.take_succ_eq_append_getElem hlt,List.mem_cons,List.mem_append,List.mem_singleton,or_comm]);generalize ids[k]=ik at *;obtain⟨w2,hrun,hI2,hK2⟩:=HI.store ik HB.1 HB.2 Aai;have HI2:=Hq hI2;have sW:=Hq hK2;clear hI2 hK2;go_wp2_with fail;go_roundw
   case rel=>
    refine⟨k+1,Aaa,Aah,?_,HI2.same HT,?_⟩
    .unfold kQ;rw [(ah sW).block _ hsl Aaa];exact HS
    .exact iR.trans ⟨sW.os,sW.tape,sW.output,sW.size,λj hj=>sW.block j (by have:=iR.size;omega) Aaa⟩
   case measure=>simp[intOf];omega
  .have hke:k=ids.length:=Aaa
   subst hke;have hnlt:decide ((ids.length:Int) < (ids.length:Int))=false:=Aac
   go_wp2_with fail;go_ret;refine⟨_,_,rfl,Aaa,Aaa,HS,?_,iR⟩;have h:=ah HI;rwa [List.take_length] at h
end Go.Proofs.YtohmklmkjmlpjaaGreatDoor
