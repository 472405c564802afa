/- Parts. -/
import Derived.Test.YtbolgdleijjgfaaGreatDoorRs22
import Derived.Test.YtbolgdleijjgfaaGreatDoorRs23
namespace Go.Proofs.YtbolgdleijjgfaaGreatDoor
open Go.Proofs.Tryz
set_option maxHeartbeats 40000000
set_option maxRecDepth 100000
open Go.RowKit
open Mth
variable (a b:Option Addr) (ca cb:Nat) {w w':World} {p:Prop} {α:Type} {l:List α} {m:List α} {k g:Nat} {e:Ending}
def lX (w:World) (p:Prop) (e:Ending) (w':World):Prop:=(∃r,e= .returned (.bool r)/\(r=true↔p))/\aH w w'
theorem lX.no (h:¬p) (hb:aH w w'):lX w p (.returned (.bool false)) w':=⟨⟨_,rfl,by simp[h]⟩,hb⟩
theorem lX.yes (h:p) (hb:aH w w'):lX w p (.returned (.bool true)) w':=⟨⟨_,rfl,by simp[h]⟩,hb⟩
theorem nM {α:Type} {l m:List α} (hn:l.length=m.length) {k:Nat} (hk:k < l.length) (h:l.take k=m.take k) (e:l[k]=m[k]):l.take (k+1)=m.take (k+1):=by rw [aEV hk,aEV Aaa,h,e]
theorem take_same {α:Type} {l m:List α} (hn:l.length=m.length) (h:l.take l.length=m.take l.length):l=m:=by rwa [aFd,hn,aFd] at h
theorem Kj {α:Type} {l m:List α} {k:Nat} (hk:k < l.length) (hk2:k < m.length) (h:l[k]≠m[k]):l≠m:=λe=>h (by subst e;rfl)
theorem fG {V:World} (n:Nat) (h:aH w V):Below w.heap.size w (V.drewN n):=⟨h.os,h.tape,h.output,h.size,h.block⟩
theorem CU {a b:ByteArray} (h:a≠b):(a.toList == b.toList)=false:=by
 cases e:(a.toList == b.toList) with
 |false=>rfl
 |true=>exact absurd (toList_inj (by simpa using e)) h
theorem QY (l m:List Int) (w:World) (hl:l.length<=1048600) (ha:bC w a l) (hb:bC w b m):
 Calls prog 177 #[.slice a l.length ca,.slice b m.length cb] w (lX w (l=m)):=by
 by_cases hn:l.length=m.length
 case' neg=>
  open ar0 in exact OL
 have HN:=Hq hn;have HA:=Hq ha;have HB:=Hq hb;rw [<-hn];clear ha hb hn;go_in
 go_wp2_with fail;go_loopw [13] (λi wr=>∃k:Nat,k<=l.length/\i= .int .i64 k/\aH w wr/\Hid (l.take k=m.take k)) (λi _=>l.length - (intOf i).toNat)
 case atStart=>exact OY
 case round=>
  obtain⟨k,hk,rfl,hbel,HT⟩:=hrel;have aY:=Hq hbel;clear hbel;by_cases hlt:k < l.length
  .open apB in exact aa3
  .exact abo
theorem afP (l m:List Pu) (w:World) (hl:l.length<=1048600) (ha:aG w a l) (hb:aG w b m):
 Calls prog 178 #[.slice a l.length ca,.slice b m.length cb] w (lX w (l=m)):=by
 by_cases hn:l.length=m.length
 case' neg=>
  open arZ in exact OL
 have HN:=Hq hn;have HA:=Hq ha;have HB:=Hq hb;rw [<-hn];clear ha hb hn;go_in
 go_wp2_with fail;go_loopw [13] (λi wr=>∃k:Nat,k<=l.length/\i= .int .i64 k/\aH w wr/\Hid (l.take k=m.take k)) (λi _=>l.length - (intOf i).toNat)
 case atStart=>exact OY
 case round=>
  obtain⟨k,hk,rfl,hbel,HT⟩:=hrel;have aY:=Hq hbel;clear hbel;by_cases hlt:k < l.length
  .open apA in exact aa3
  .exact abo
theorem Zo (l m:List jC) (w:World) (hl:l.length<=1048600) (ha:SentAt w a l) (hb:SentAt w b m):
 Calls prog 179 #[.slice a l.length ca,.slice b m.length cb] w (lX w (l=m)):=by
 by_cases hn:l.length=m.length
 case' neg=>
  open arY in exact OL
 have HN:=Hq hn;have HA:=Hq ha;have HB:=Hq hb;rw [<-hn];clear ha hb hn;go_in
 go_wp2_with fail;go_loopw [13] (λi wr=>∃k:Nat,k<=l.length/\i= .int .i64 k/\aH w wr/\Hid (l.take k=m.take k)) (λi _=>l.length - (intOf i).toNat)
 case atStart=>exact OY
 case round=>
  obtain⟨k,hk,rfl,hbel,HT⟩:=hrel;have aY:=Hq hbel;clear hbel;by_cases hlt:k < l.length
  .open apz in exact aa3
  .exact abo
theorem adr (l m:List Rq) (w:World) (hl:l.length<=1048600) (ha:fT w a l) (hb:fT w b m):
 Calls prog 182 #[.slice a l.length ca,.slice b m.length cb] w (lX w (l=m)):=by
 by_cases hn:l.length=m.length
 case' neg=>
  open arX in exact OL
 have HN:=Hq hn;have HA:=Hq ha;have HB:=Hq hb;rw [<-hn];clear ha hb hn;go_in
 go_wp2_with fail;go_loopw [13] (λi wr=>∃k:Nat,k<=l.length/\i= .int .i64 k/\aH w wr/\Hid (l.take k=m.take k)) (λi _=>l.length - (intOf i).toNat)
 case atStart=>exact OY
 case round=>
  obtain⟨k,hk,rfl,hbel,HT⟩:=hrel;have aY:=Hq hbel;clear hbel;by_cases hlt:k < l.length
  .open apy in exact aa3
  .exact abo
theorem zU (w:World) (a b:Obj):Below w.heap.size w ((w.alloc a).alloc b):=((aEY _ _).alloc (aEM _) _).alloc Aac _
theorem afG {n m:Nd} (h0:n.id=m.id) (h1:n.par=m.par) (h3:n.next=m.next) (h7:n.old=m.old) (h2:n.kids=m.kids) (h4:n.pu=m.pu) (h5:n.out=m.out) (h6:n.seen=m.seen) (h8:n.reqs=m.reqs):n=m:=by
 cases n
 cases m
 simp_all
theorem ads (x y:Sn) (a b:Option Addr) (ca cb:Nat) (w:World) (hl:x.ids.length<=1048600) (ha:bC w a x.ids) (hb:bC w b y.ids):
 Calls prog 181 #[.agg #[.int .i64 x.f,.int .i64 x.l,.slice a x.ids.length ca],.agg #[.int .i64 y.f,.int .i64 y.l,.slice b y.ids.length cb]] w (lX w (x=y)):=by
 obtain⟨f,l,ids⟩:=x;obtain⟨f2,l2,acg⟩:=y;dsimp only at hl ha hb ⊢;have hbz:=Hq (zU w (.cells #[.int .i64 f,.int .i64 l,.slice a ids.length ca] 130) (.cells #[.int .i64 f2,.int .i64 l2,.slice b acg.length cb] 130));have HC:=Hq (λW (h:aH w W)=>QY a b ca cb ids acg W hl (ha.below h) (hb.below h));clear ha hb hl;by_cases hf:f=f2
 case' neg=>
  have hq:(f == f2)=false:=Acd
  have HP:=Hq (show¬(⟨f,l,ids⟩:Sn)=⟨f2,l2,acg⟩ from λh=>hf (congrArg Sn.f h));exact aiP
 subst hf;by_cases hf:l=l2
 case' neg=>
  have hq:(l == l2)=false:=Acd
  have HP:=Hq (show¬(⟨f,l,ids⟩:Sn)=⟨f,l2,acg⟩ from λh=>hf (congrArg Sn.l h));exact aiP
 subst hf;go_in
 go_wp2_with fail;refine(HC _ hbz).mono ?_;rintro e w1 ⟨⟨r,rfl,hr⟩,hb1⟩;have HR:=Hq (show r=true↔(⟨f,l,ids⟩:Sn)=⟨f,l,acg⟩ by rw [hr];simp);have aY:=Hq (Below.trans hbz (hb1.mono hbz.size));clear hb1 hbz hr HC;go_wp2_with fail;go_ret;exact⟨⟨r,rfl,HR⟩,aY⟩
theorem Zn (l m:List Sn) (w:World) (hl:l.length<=1048600) (hi:∀s∈l,s.ids.length<=1048600) (ha:gZ w a l) (hb:gZ w b m):
 Calls prog 180 #[.slice a l.length ca,.slice b m.length cb,.func (.func 181) #[] #[]] w (lX w (l=m)):=by
 by_cases hn:l.length=m.length
 case' neg=>
  open ar1 in exact OL
 have HN:=Hq hn;have HA:=Hq ha;have HB:=Hq hb;have HI:=Hq hi;rw [<-hn];clear ha hb hn hi;go_in
 go_wp2_with fail;go_loopw [17] (λi wr=>∃k:Nat,k<=l.length/\i= .int .i64 k/\aH w wr/\Hid (l.take k=m.take k)) (λi _=>l.length - (intOf i).toNat)
 case atStart=>exact OY
 case round=>
  obtain⟨k,hk,rfl,hbel,HT⟩:=hrel;have aY:=Hq hbel;clear hbel;by_cases hlt:k < l.length
  .open apC in exact aa3
  .exact abo
theorem Zm (n m:Nd) (A B:bq) (w:World) (hz:eF n 1048576) (ha:bY w A n) (hb:bY w B m):
 Calls prog 145 #[gM n A,gM m B] w (lX w (n=m)):=by
 have HZ:=Hq hz;have HA:=Hq ha;have HB:=Hq hb;clear ha hb hz;by_cases hx:n.id=m.id
 case' neg=>
  have hq:(n.id == m.id)=false:=Aag
  exact aeO
 have qid:(n.id == m.id)=true:=Aai
 have aAn:=Hq hx;clear hx;by_cases hx:n.par=m.par
 case' neg=>
  have hq:(n.par == m.par)=false:=Aag
  exact aeO
 have azD:(n.par == m.par)=true:=Aai
 have ajS:=Hq hx;clear hx;by_cases hx:n.next=m.next
 case' neg=>
  have hq:(n.next == m.next)=false:=Aag
  exact aeO
 have ajg:(n.next == m.next)=true:=Aai
 have aav:=Hq hx;clear hx;by_cases hx:n.old=m.old
 case' neg=>
  have hq:(n.old == m.old)=false:=Aag
  exact aeO
 have azC:(n.old == m.old)=true:=Aai
 have Hold:=Hq hx;clear hx;go_in
 have h1:((w.alloc (.cells (dH n A) 39)).alloc (.cells (dH m B) 39)).heap[w.heap.size]?=some (.cells (dH n A) 39 (0,0)):=(aEZ _ _ _ Aac).trans (aEK w _)
 have h2:((w.alloc (.cells (dH n A) 39)).alloc (.cells (dH m B) 39)).heap[w.heap.size+1]?=some (.cells (dH m B) 39 (0,0)):=by
  have h:=aEK (w.alloc (.cells (dH n A) 39)) (.cells (dH m B) 39);rwa [show(w.alloc (.cells (dH n A) 39)).heap.size=w.heap.size+1 by simp] at h
 have hbz:=zU w (.cells (dH n A) 39) (.cells (dH m B) 39);go_wp2_with fail;generalize (w.alloc (.cells (dH n A) 39)).alloc (.cells (dH m B) 39)=W0 at *;have HO:=Hq h1;have HP:=Hq h2;have HL:=Hq hbz;clear h1 h2 hbz;refine(QY A.k B.k A.ck B.ck n.kids m.kids _ (aEP HZ.k Aaa) (HA.below HL).k (HB.below HL).k).mono ?_;rintro e W ⟨⟨r,rfl,hr⟩,hb⟩;have yI:=Hq (aj HO hb);have qY:=Hq (aj HP hb);have HL2:=Hq (HL.trans (hb.mono HL.size));clear hb HO HP HL;have HO:=Hq yI;have HP:=Hq qY;have HL:=Hq HL2;clear yI qY HL2;cases r
 case' false=>
  exact aeQ
 have aau:=Hq (hr.1 rfl);clear hr;obtain⟨c0,c1,c2,c3,c4,c5,c6,c7,c8⟩:=nine HO;obtain⟨d0,d1,d2,d3,d4,d5,d6,d7,d8⟩:=nine HP;go_wp2_with fail;clear c0 c1 c2 c3 c4 c5 c6 c7 c8 d0 d1 d2 d3 d4 d5 d6 d7 d8;refine(afP A.p B.p A.cp B.cp n.pu m.pu _ (aEP HZ.p Aaa) (HA.below HL).p (HB.below HL).p).mono ?_;rintro e W ⟨⟨r,rfl,hr⟩,hb⟩;have yI:=Hq (aj HO hb);have qY:=Hq (aj HP hb);have HL2:=Hq (HL.trans (hb.mono HL.size));clear hb HO HP HL;have HO:=Hq yI;have HP:=Hq qY;have HL:=Hq HL2;clear yI qY HL2;cases r
 case' false=>
  exact aeQ
 have Hpu:=Hq (hr.1 rfl);clear hr;obtain⟨c0,c1,c2,c3,c4,c5,c6,c7,c8⟩:=nine HO;obtain⟨d0,d1,d2,d3,d4,d5,d6,d7,d8⟩:=nine HP;go_wp2_with fail;clear c0 c1 c2 c3 c4 c5 c6 c7 c8 d0 d1 d2 d3 d4 d5 d6 d7 d8;refine(Zo A.o B.o A.co B.co n.out m.out _ (aEP HZ.o Aaa) (HA.below HL).o (HB.below HL).o).mono ?_;rintro e W ⟨⟨r,rfl,hr⟩,hb⟩;have yI:=Hq (aj HO hb);have qY:=Hq (aj HP hb);have HL2:=Hq (HL.trans (hb.mono HL.size));clear hb HO HP HL;have HO:=Hq yI;have HP:=Hq qY;have HL:=Hq HL2;clear yI qY HL2;cases r
 case' false=>
  exact aeQ
 have aAp:=Hq (hr.1 rfl);clear hr;obtain⟨c0,c1,c2,c3,c4,c5,c6,c7,c8⟩:=nine HO;obtain⟨d0,d1,d2,d3,d4,d5,d6,d7,d8⟩:=nine HP;go_wp2_with fail;clear c0 c1 c2 c3 c4 c5 c6 c7 c8 d0 d1 d2 d3 d4 d5 d6 d7 d8;refine(Zn A.s B.s A.cs B.cs n.seen m.seen _ (aEP HZ.s Aaa) (λs hs=>aEP (HZ.sk s hs) Aaa) (HA.below HL).s (HB.below HL).s).mono ?_;rintro e W ⟨⟨r,rfl,hr⟩,hb⟩;have yI:=Hq (aj HO hb);have qY:=Hq (aj HP hb);have HL2:=Hq (HL.trans (hb.mono HL.size));clear hb HO HP HL;have HO:=Hq yI;have HP:=Hq qY;have HL:=Hq HL2;clear yI qY HL2;cases r
 case' false=>
  exact aeQ
 have amO:=Hq (hr.1 rfl);clear hr;obtain⟨c0,c1,c2,c3,c4,c5,c6,c7,c8⟩:=nine HO;obtain⟨d0,d1,d2,d3,d4,d5,d6,d7,d8⟩:=nine HP;go_wp2_with fail;clear c0 c1 c2 c3 c4 c5 c6 c7 c8 d0 d1 d2 d3 d4 d5 d6 d7 d8;refine(adr A.r B.r A.cr B.cr n.reqs m.reqs _ (aEP HZ.r Aaa) (HA.below HL).r (HB.below HL).r).mono ?_;rintro e W ⟨⟨r,rfl,hr⟩,hb⟩;have yI:=Hq (aj HO hb);have qY:=Hq (aj HP hb);have HL2:=Hq (HL.trans (hb.mono HL.size));clear hb HO HP HL;have HO:=Hq yI;have HP:=Hq qY;have HL:=Hq HL2;clear yI qY HL2;have HR:=Hq (show r=true↔n=m from⟨λh=>afG aAn ajS aav Hold aau Hpu aAp amO (hr.1 h),λh=>hr.2 (by rw [h])⟩);clear hr;go_wp2_with fail;go_ret;exact⟨⟨r,rfl,HR⟩,HL⟩
open Go.RowKit Go.Maps
abbrev kX (w:World) (sb mb:Nat) (low:Int):Prop:=w.heap[sb]?=some (.cells #[.int .i64 low,.map (some mb)] 306 (0,0))
theorem aA.of_keeps (h:Keeps g w w'):aA [g] w w':=⟨h.os,h.tape,h.output,h.size,λk hk hg=>h.block k hk (by simpa using hg)⟩
theorem fF.ne {sb mb n:Nat} {low:Int} {l:List Int} (h:fF w mb n l) (hs:kX w sb mb low):sb≠mb:=λe=>by
 obtain⟨D,⟨es,clock,hb,_⟩,_⟩:=h;unfold kX at hs;rw [e,hb] at hs;cases hs
theorem fF.far {mb n:Nat} {l:List Int} {cs:Array Value} {t:TypeId} {q:Nat×Nat} (h:fF w mb n l) (hs:w.heap[g]?=some (.cells cs t q)):g≠mb:=λe=>by
 obtain⟨D,⟨es,clock,hb,_⟩,_⟩:=h;rw [e,hb] at hs;cases hs
theorem akL (sb mb n:Nat) (low x:Int) (l:List Int) (w:World) (h0:0<=x) (h1:x<=1000000000) (hb:kX w sb mb low) (hs:fF w mb n l):
 Calls prog 250 #[.pointer (some ⟨sb,0,none⟩),.int .i64 x] w (dM w (.bool (decide (x < low)||decide (x∈l)))):=by
 have hsl:=ay hb;obtain⟨⟨m0,m1⟩,_⟩:=mH hb;have hrun:=hs.look x h0 h1;clear hb hs;cases hm:decide (x∈l)
 .rw [hm] at hrun;go_in
  exact VZ
 .rw [hm] at hrun;go_in
  exact VZ
theorem afA (sb mb n:Nat) (azc low L:Int) (l:List Int) (w:World) (hL:max azc low=L) (hb:kX w sb mb azc) (hs:fF w mb n l):
 Calls prog 249 #[.pointer (some ⟨sb,0,none⟩),.int .i64 low] w λe w'=>e= .returned (.tuple #[])/\kX w' sb mb L/\fF w' mb n (l.filter (λx=>decide (L<=x)))/\aA [sb,mb] w w':=by
 have hsl:=ay hb;have hml:=hs.lt;have hne:=hs.ne hb;have HB:=Hq hb;have HS:=Hq hs;obtain⟨⟨m0,m1⟩,f0,f1⟩:=mH hb;have HL:=Hq hL;clear hb hs hL;go_in
 go_upto_region 2 with fail;go_region
 rw [ah HL];go_upto_region 2 with fail;refine wp_at (λW hW=>?_);have hsz:(w.setCell ⟨sb,0,none⟩ (.int .i64 L)).heap.size=w.heap.size:=Aaq
 have e1:W.heap[w.heap.size]?=some (.cells #[.pointer (some ⟨sb,0,none⟩)] 267 (0,0)):=by
  rw [hW,<-hsz];exact aEK _ _
 have e2:kX W sb mb L:=by
  have h1:(w.setCell ⟨sb,0,none⟩ (.int .i64 L)).heap[sb]?=some (.cells #[.int .i64 L,.map (some mb)] 306 (0,0)):=aN HB 0 (.int .i64 L);rw [hW];exact(aEZ _ _ _ (by rw [hsz];exact hsl)).trans h1
 have e3:fF W mb n l:=HS.kept (by
  rw [hW]
  exact(aEZ _ _ _ (by rw [hsz];exact hml)).trans (aE9 _ _ _ _ hne.symm))
 have e4:aA [sb,mb] w W:=by
  rw [hW];refine⟨rfl,rfl,rfl,Aaq,λk hk hkn=>?_⟩;have h1:k≠sb:=λe=>hkn (by simp[e])
  exact(aEZ _ _ _ (by rw [hsz];exact hk)).trans (aE9 _ _ _ _ h1)
 have m0:W.cell? ⟨w.heap.size,0,none⟩=some (.pointer (some ⟨sb,0,none⟩)):=aEW W _ 0 _ _ (0,0) e1;obtain⟨⟨m1,m2⟩,_⟩:=mH e2;have hwl:=ay e1;have hsl2:=ay e2;have HD:=Hq (aky w.heap.size sb mb n L l W e1 e2 e3);have E2:=Hq e2;have E4:=Hq e4;clear hW e1 e2 e3 e4 HB HS;go_wp2_with fail;refine HD.mono ?_;rintro e w' ⟨rfl,g1,g2⟩;have G1:=Hq g1;have G2:=Hq g2;clear g1 g2 HD m0 m1 m2;go_wp2_with fail;refine aGD (v:= .tuple #[]) (by simp[results,results249,go_sem]) rfl ⟨rfl,?_,G1,E4.trans ((aA.of_keeps G2).mono Aac)⟩;unfold kX;rw [(ah G2).block sb hsl2 hne];exact E2
theorem setOf (f low:Int) (a:Option Addr) (cap:Nat) (ids:List Int) (w:World) (hl:ids.length<=40) (hb:∀x∈ids,0<=x/\x<=1000000000) (ha:bC w a ids):
 Calls prog 248 #[.agg #[.int .i64 f,.int .i64 low,.slice a ids.length cap]] w λe w'=>∃sb mb,e= .returned (.pointer (some ⟨sb,0,none⟩))/\w.heap.size<=sb/\w.heap.size<=mb/\kX w' sb mb low/\fF w' mb ids.length ids/\aH w w':=by
 have hmm:= @run_makeMap prog;have HA:=Hq ha;have HBD:=Hq hb;clear ha hb;go_in
 go_wp2_with fail;go_loopw [14] (λi wr=>∃k:Nat,k<=ids.length/\i= .int .i64 k/\kX wr (w.heap.size+1+1) (w.heap.size+1) low/\fF wr (w.heap.size+1) k (ids.take k)/\aH w wr) (λi _=>ids.length - (intOf i).toNat)
 case atStart=>
  have hz:∀(u:World) (o:Obj),(u.alloc o).heap.size=u.heap.size+1:=λu o=>by simp
  have hM:=fF.made (w.alloc (.cells #[.int .i64 f,.int .i64 low,.slice a ids.length cap] 130));have hS:=aEK ((w.alloc (.cells #[.int .i64 f,.int .i64 low,.slice a ids.length cap] 130)).alloc (.map #[] 0)) (.cells #[.int .i64 low,.map (some (w.heap.size+1))] 306);rw [hz] at hM;rw [hz,hz] at hS;refine⟨0,aE1 _,rfl,hS,?_,?_⟩
  .refine hM.kept ?_;exact aEZ _ _ _ (by rw [hz,hz];omega)
  .exact((au w _).alloc (by rw [hz];omega) _).alloc (by rw [hz,hz];omega) _
 case round=>
  obtain⟨k,hk,rfl,hS,hI,hbw⟩:=hrel;have HS:=Hq hS;have HI:=Hq hI;have iK:=Hq hbw;obtain⟨⟨m0,m1⟩,_⟩:=mH hS;have hsl:=ay hS;clear hS hI hbw hmm;by_cases hlt:k < ids.length
  .obtain⟨g,off,rfl,hgw,q0⟩:=bC.one (GR.At.below HA iK) k hlt;have HB:=Hq (HBD ids[k] (aE2 hlt));have HT:=Hq (show∀x,x∈ids[k]::ids.take k↔x∈ids.take (k+1) from λx=>by rw [aEV hlt,aE8,aE6,aE3,or_comm]);generalize ids[k]=ik at *;obtain⟨w2,hrun,hI2,hK2⟩:=HI.store ik HB.1 HB.2 Aaj;have HI2:=Hq hI2;have oH:=Hq hK2;clear hI2 hK2;go_wp2_with fail;go_roundw
   case rel=>
    refine⟨k+1,Aaa,Aaf,?_,HI2.same HT,?_⟩
    .unfold kX;rw [(ah oH).block _ hsl Aaa];exact HS
    .exact iK.trans ⟨oH.os,oH.tape,oH.output,oH.size,λj hj=>oH.block j (by have:=iK.size;omega) Aaa⟩
   case measure=>simp[intOf];omega
  .have hke:k=ids.length:=Aaa
   subst hke;have hnlt:decide ((ids.length:Int) < (ids.length:Int))=false:=Aac
   go_wp2_with fail;go_ret;refine⟨_,_,rfl,Aaa,Aaa,HS,?_,iK⟩;have h:=ah HI;rwa [aFd] at h
theorem lX.of_yes (h:lX w p e w') (hp:p):e= .returned (.bool true)/\aH w w':=by
 obtain⟨⟨r,rfl,hr⟩,hb⟩:=h;rw [hr.2 hp];exact⟨rfl,hb⟩
theorem lX.of_no (h:lX w p e w') (hp:¬p):e= .returned (.bool false)/\aH w w':=by
 obtain⟨⟨r,rfl,hr⟩,hb⟩:=h;cases r
 .exact⟨rfl,hb⟩
 .exact absurd (hr.1 rfl) hp
theorem Nv (l m:List Int) (w:World) (hl:l.length<=1048600) (ha:bC w a l) (hb:bC w b m):
 Calls prog 98 #[.slice a l.length ca,.slice b m.length cb] w (lX w (l=m)):=by
 by_cases hn:l.length=m.length
 case' neg=>
  have hd:((l.length:Int) != (m.length:Int))=true:=Aah
  have HP:=Hq (show¬l=m from λh=>hn (congrArg List.length h));clear hn ha hb;go_in
  go_wp2_with fail;go_ret;exact .no HP (aEY _ _)
 have HN:=Hq hn;have HA:=Hq ha;have HB:=Hq hb;rw [<-hn];clear ha hb hn;go_in
 go_wp2_with fail;go_loopw [5] (λi wr=>∃k:Nat,k<=l.length/\i= .int .i64 k/\aH w wr/\Hid (l.take k=m.take k)) (λi _=>l.length - (intOf i).toNat)
 case atStart=>exact⟨0,aE1 _,rfl,aEY _ _,rfl⟩
 case round=>
  obtain⟨k,hk,rfl,hbel,HT⟩:=hrel;have aY:=Hq hbel;clear hbel;by_cases hlt:k < l.length
  .have hk2:k < m.length:=(ah HN)▸hlt;have HE:=Hq (λe=>nM HN hlt HT e);have HD:=Hq (λe=>Kj hlt hk2 e);obtain⟨g1,o1,rfl,hg1,s0⟩:=bC.one (GR.At.below HA aY) k hlt;obtain⟨g2,o2,rfl,hg2,t0⟩:=bC.one (GR.At.below HB aY) k hk2;generalize l[k]=x at *;generalize m[k]=y at *;clear hk2;by_cases hxy:x=y
   case' neg=>
    have hq:(x != y)=true:=by simpa using hxy
    have HP:=Hq (HD hxy);clear HD HE hxy;go_upto_region 6 with fail;go_quiet (fail);go_wp2_with fail;go_ret;exact .no HP (fG _ aY)
   subst hxy;have HT2:=Hq (HE rfl);clear HE HD;go_upto_region 6 with fail;go_quiet (fail);go_wp2_with fail;go_roundw
   case rel=>exact⟨k+1,Aaa,Aaf,fG _ aY,HT2⟩
   case measure=>simp[intOf];omega
  .have hke:k=l.length:=Aaa
   subst hke;have hnlt:decide ((l.length:Int) < (l.length:Int))=false:=Aac
   have HP:=Hq (take_same HN HT);go_wp2_with fail;go_ret;exact .yes HP aY
theorem JA (n m:Nd) (A B:bq) (w:World) (hz:eF n 1048576) (ha:bY w A n) (hb:bY w B m):
 Calls prog 49 #[gM n A,gM m B] w (lX w (n=m)):=by
 obtain⟨hA,hB,hbw⟩:=abr w (.cells (dH n A) 39) (.cells (dH m B) 39);generalize hW:(w.alloc (.cells (dH n A) 39)).alloc (.cells (dH m B) 39)=W at *;have HA:=Hq hA;have HB:=Hq hB;have iK:=Hq hbw;have N8:=Hq (ha.below hbw);have Sw:=Hq (hb.below hbw);have HSI:=Hq (λa b ca cb (l l2:List Int) (w:World) (hl:l.length<=1048576) ha hb=>Nv a b ca cb l l2 w Aaa ha hb);have HZ:=Hq hz;have hzp:=hz.p;have hzo:=hz.o;have hzs:=hz.s;have hzr:=hz.r;clear hA hB hbw ha hb hz;obtain⟨id,par,kids,next,pu,out,seen,old,reqs⟩:=n;obtain⟨id2,MX,FX,Ba,pu2,Cr,rP,MO,tN⟩:=m;obtain⟨ak,ap,ao,as',ar,ck,cp,co,cs,cr⟩:=A;obtain⟨bk,bp,bo,bs,br,dk,dp,do',ds,dr⟩:=B;dsimp only at hzp hzo hzs hzr;have HD:=Hq (λh:(⟨id,par,kids,next,pu,out,seen,old,reqs⟩:Nd)=⟨id2,MX,FX,Ba,pu2,Cr,rP,MO,tN⟩=>show id=id2/\par=MX/\kids=FX/\next=Ba/\pu=pu2/\out=Cr/\seen=rP/\old=MO/\reqs=tN by simpa using h);have HJ:=Hq (fun(h0:id=id2) (h1:par=MX) (h2:kids=FX) (h3:next=Ba) (h4:pu=pu2) (h5:out=Cr) (h6:seen=rP) (h7:old=MO) (h8:reqs=tN)=>show(⟨id,par,kids,next,pu,out,seen,old,reqs⟩:Nd)=⟨id2,MX,FX,Ba,pu2,Cr,rP,MO,tN⟩ by rw [h0,h1,h2,h3,h4,h5,h6,h7,h8]);generalize ((⟨id,par,kids,next,pu,out,seen,old,reqs⟩:Nd)=⟨id2,MX,FX,Ba,pu2,Cr,rP,MO,tN⟩)=PR at *;have HA:Hid (W.heap[w.heap.size]?=some (.cells (vW id par ak kids.length ck next ap pu.length cp ao out.length co as' seen.length cs old ar reqs.length cr) 39 (0,0))):=HA;have HB:Hid (W.heap[w.heap.size+1]?=some (.cells (vW id2 MX bk FX.length dk Ba bp pu2.length dp bo Cr.length do' bs rP.length ds MO br tN.length dr) 39 (0,0))):=HB;obtain⟨c0,c1,c2,c3,c4,c5,c6,c7,c8⟩:=nine HA;obtain⟨e0,e1,e2,e3,e4,e5,e6,e7,e8⟩:=nine HB;by_cases hx:id=id2
 case' neg=>
  have hq:(id != id2)=true:=Aag
  have HN:=Hq (show¬PR from λh=>hx (by have h:=ah HD h;exact h.1))
  clear hx HD HJ
  as_aux_lemma=>
   go_in
   go_upto_region 1 with fail
   clear hW
   go_wp2_with fail
   go_ret
   exact .no HN iK
 have aAo:=Hq hx;have qid:(id != id2)=false:=Aai
 clear hx;by_cases hx:par=MX
 case' neg=>
  have hq:(par != MX)=true:=Aag
  have HN:=Hq (show¬PR from λh=>hx (by have h:=ah HD h;exact h.2.1))
  clear hx HD HJ
  as_aux_lemma=>
   go_in
   go_upto_region 1 with fail
   clear hW
   go_wp2_with fail
   go_ret
   exact .no HN iK
 have ajS:=Hq hx;have azD:(par != MX)=false:=Aai
 clear hx;go_in
 go_upto_region 1 with fail;clear hW;go_wp2_with fail;refine(HSI ak bk ck dk kids FX W HZ.k N8.k Sw.k).mono ?_;rintro e w1 ⟨⟨r,rfl,hr⟩,hb1⟩;have HB1:=Hq hb1;have HA1:=Hq (aj HA hb1);have NW:=Hq (aj HB hb1);have BA:=Hq (iK.trans (hb1.mono iK.size));clear hb1 c0 c1 c2 c3 c4 c5 c6 c7 c8 e0 e1 e2 e3 e4 e5 e6 e7 e8 HA HB iK;cases r
 case' false=>
  have HN:=Hq (show¬PR from λh=>by have h:=ah HD h;have h2:=hr.2 h.2.2.1;cases h2)
  clear hr HD HJ
  as_aux_lemma=>
   go_wp2_with fail
   go_ret
   exact .no HN BA
 have aau:=Hq (hr.1 rfl);clear hr;obtain⟨c0,c1,c2,c3,c4,c5,c6,c7,c8⟩:=nine HA1;obtain⟨e0,e1,e2,e3,e4,e5,e6,e7,e8⟩:=nine NW;by_cases hx:next=Ba
 case' neg=>
  have hq:(next != Ba)=true:=Aag
  have HN:=Hq (show¬PR from λh=>hx (by have h:=ah HD h;exact h.2.2.2.1))
  clear hx HD HJ
  as_aux_lemma=>
   go_wp2_with fail
   go_ret
   exact .no HN BA
 have aav:=Hq hx;have ajg:(next != Ba)=false:=Aai
 clear hx;by_cases hx:old=MO
 case' neg=>
  have hq:(old != MO)=true:=Aag
  have HN:=Hq (show¬PR from λh=>hx (by have h:=ah HD h;exact h.2.2.2.2.2.2.2.1))
  clear hx HD HJ
  as_aux_lemma=>
   go_wp2_with fail
   go_ret
   exact .no HN BA
 have Hold:=Hq hx;have azC:(old != MO)=false:=Aai
 clear hx;by_cases hx:pu.length=pu2.length
 case' neg=>
  have hq:((pu.length:Int) != (pu2.length:Int))=true:=Aah
  have HN:=Hq (show¬PR from λh=>hx (by have h:=ah HD h;exact congrArg List.length h.2.2.2.2.1))
  clear hx HD HJ
  as_aux_lemma=>
   go_wp2_with fail
   go_ret
   exact .no HN BA
 have Lpu:=Hq hx;have qpu:((pu.length:Int) != (pu2.length:Int))=false:=Aai
 clear hx;by_cases hx:out.length=Cr.length
 case' neg=>
  have hq:((out.length:Int) != (Cr.length:Int))=true:=Aah
  have HN:=Hq (show¬PR from λh=>hx (by have h:=ah HD h;exact congrArg List.length h.2.2.2.2.2.1))
  clear hx HD HJ
  as_aux_lemma=>
   go_wp2_with fail
   go_ret
   exact .no HN BA
 have ajT:=Hq hx;have aDe:((out.length:Int) != (Cr.length:Int))=false:=Aai
 clear hx;by_cases hx:seen.length=rP.length
 case' neg=>
  have hq:((seen.length:Int) != (rP.length:Int))=true:=Aah
  have HN:=Hq (show¬PR from λh=>hx (by have h:=ah HD h;exact congrArg List.length h.2.2.2.2.2.2.1))
  clear hx HD HJ
  as_aux_lemma=>
   go_wp2_with fail
   go_ret
   exact .no HN BA
 have aay:=Hq hx;have azF:((seen.length:Int) != (rP.length:Int))=false:=Aai
 clear hx;by_cases hx:reqs.length=tN.length
 case' neg=>
  have hq:((reqs.length:Int) != (tN.length:Int))=true:=Aah
  have HN:=Hq (show¬PR from λh=>hx (by have h:=ah HD h;exact congrArg List.length h.2.2.2.2.2.2.2.2))
  clear hx HD HJ
  as_aux_lemma=>
   go_wp2_with fail
   go_ret
   exact .no HN BA
 have aax:=Hq hx;have azE:((reqs.length:Int) != (tN.length:Int))=false:=Aai
 clear hx;go_wp2_with fail;clear qid azD ajg azC qpu aDe azF azE c0 c1 c2 c3 c4 c5 c6 c7 c8 e0 e1 e2 e3 e4 e5 e6 e7 e8;have H7:=Hq (aEY w1.heap.size w1);go_loopw [5] (λi wr=>∃k:Nat,k<=pu.length/\i= .int .i64 k/\aH w1 wr/\Hid (pu.take k=pu2.take k)) (λi _=>pu.length - (intOf i).toNat)
 case atStart=>exact⟨0,aE1 _,rfl,H7,rfl⟩
 case round=>
  obtain⟨k,hk,rfl,hbel,HT⟩:=hrel;have aY:=Hq hbel;clear hbel H7;obtain⟨c0,c1,c2,c3,c4,c5,c6,c7,c8⟩:=nine (aj HA1 aY);obtain⟨e0,e1,e2,e3,e4,e5,e6,e7,e8⟩:=nine (aj NW aY);have eT:=Hq (HB1.trans (aY.mono HB1.size));have zF:=Hq (BA.trans (aY.mono BA.size));by_cases hlt:k < pu.length
  .have hk2:k < pu2.length:=(ah Lpu)▸hlt;have HE:=Hq (λe=>nM Lpu hlt HT e);have HN:=Hq (show pu[k]≠pu2[k]->¬PR from λe h=>Kj hlt hk2 e (by have h:=ah HD h;exact h.2.2.2.2.1));obtain⟨g1,o1,rfl,hg1,s0,s1,s2,s3⟩:=aG.four (GR.At.below N8.p eT) k hlt;obtain⟨g2,o2,rfl,hg2,t0,t1,t2,t3⟩:=aG.four (GR.At.below Sw.p eT) k hk2;generalize pu[k]=x at *;generalize pu2[k]=y at *;obtain⟨x0,x1,x2,x3⟩:=x;obtain⟨y0,y1,y2,y3⟩:=y;dsimp only at s0 s1 s2 s3 t0 t1 t2 t3;by_cases hx:x0=y0
   case' neg=>
    have hq:(x0.toList == y0.toList)=false:=CU hx
    have hr:¬x0.toList=y0.toList:=Abh
    have HP:=Hq (HN Aai)
    clear HN HE HD HJ hx
    as_aux_lemma=>
     go_upto_region 6 with fail
     go_quiet (fail)
     go_wp2_with fail
     go_ret
     exact .no HP (fG _ zF)
   subst hx;by_cases hx:x1=y1
   case' neg=>
    have hq:(x1 == y1)=false:=Aag
    have HP:=Hq (HN Aai)
    clear HN HE HD HJ
    as_aux_lemma=>
     go_upto_region 6 with fail
     go_quiet (fail)
     go_wp2_with fail
     go_ret
     exact .no HP (fG _ zF)
   subst hx;by_cases hx:x2=y2
   case' neg=>
    have hq:(x2 == y2)=false:=Aag
    have HP:=Hq (HN Aai)
    clear HN HE HD HJ
    as_aux_lemma=>
     go_upto_region 6 with fail
     go_quiet (fail)
     go_wp2_with fail
     go_ret
     exact .no HP (fG _ zF)
   subst hx;by_cases hx:x3=y3
   case' neg=>
    have hq:(x3 == y3)=false:=Aag
    have HP:=Hq (HN Aai)
    clear HN HE HD HJ
    as_aux_lemma=>
     go_upto_region 6 with fail
     go_quiet (fail)
     go_wp2_with fail
     go_ret
     exact .no HP (fG _ zF)
   subst hx;have HT2:=Hq (HE rfl);clear HE HN eT zF;go_upto_region 6 with fail;go_quiet (fail);go_wp2_with fail;go_roundw
   case rel=>exact⟨k+1,Aaa,Aaf,fG _ aY,HT2⟩
   case measure=>simp[intOf];omega
  .have hke:k=pu.length:=Aaa
   subst hke;have hnlt:decide ((pu.length:Int) < (pu.length:Int))=false:=Aac
   have Epu:=Hq (take_same Lpu HT);have zB:=aY;clear aY HT eT zF;go_wp2_with fail;clear c0 c1 c2 c3 c4 c5 c6 c7 c8 e0 e1 e2 e3 e4 e5 e6 e7 e8;go_loopw [6] (λi wr=>∃k:Nat,k<=out.length/\i= .int .i64 k/\aH w1 wr/\Hid (out.take k=Cr.take k)) (λi _=>out.length - (intOf i).toNat)
   case atStart=>exact⟨0,aE1 _,rfl,zB,rfl⟩
   case round=>
    obtain⟨k,hk,rfl,hbel,HT⟩:=hrel;have aY:=Hq hbel;clear hbel zB;obtain⟨c0,c1,c2,c3,c4,c5,c6,c7,c8⟩:=nine (aj HA1 aY);obtain⟨e0,e1,e2,e3,e4,e5,e6,e7,e8⟩:=nine (aj NW aY);have eT:=Hq (HB1.trans (aY.mono HB1.size));have zF:=Hq (BA.trans (aY.mono BA.size));by_cases hlt:k < out.length
    .have hk2:k < Cr.length:=(ah ajT)▸hlt;have HE:=Hq (λe=>nM ajT hlt HT e);have HN:=Hq (show out[k]≠Cr[k]->¬PR from λe h=>Kj hlt hk2 e (by have h:=ah HD h;exact h.2.2.2.2.2.1));obtain⟨g1,o1,rfl,hg1,s0,s1,s2,s3⟩:=SentAt.four (GR.At.below N8.o eT) k hlt;obtain⟨g2,o2,rfl,hg2,t0,t1,t2,t3⟩:=SentAt.four (GR.At.below Sw.o eT) k hk2;generalize out[k]=x at *;generalize Cr[k]=y at *;obtain⟨x0,x1,x2,x3⟩:=x;obtain⟨y0,y1,y2,y3⟩:=y;dsimp only at s0 s1 s2 s3 t0 t1 t2 t3;by_cases hx:x0=y0
     case' neg=>
      have hq:(x0 == y0)=false:=Aag
      have HP:=Hq (HN Aai)
      clear HN HE HD HJ
      as_aux_lemma=>
       go_upto_region 11 with fail
       go_quiet (fail)
       go_wp2_with fail
       go_ret
       exact .no HP (fG _ zF)
     subst hx;by_cases hx:x1=y1
     case' neg=>
      have hq:(x1 == y1)=false:=Aag
      have HP:=Hq (HN Aai)
      clear HN HE HD HJ
      as_aux_lemma=>
       go_upto_region 11 with fail
       go_quiet (fail)
       go_wp2_with fail
       go_ret
       exact .no HP (fG _ zF)
     subst hx;by_cases hx:x2=y2
     case' neg=>
      have hq:(x2.toList == y2.toList)=false:=CU hx
      have hr:¬x2.toList=y2.toList:=Abh
      have HP:=Hq (HN Aai)
      clear HN HE HD HJ hx
      as_aux_lemma=>
       go_upto_region 11 with fail
       go_quiet (fail)
       go_wp2_with fail
       go_ret
       exact .no HP (fG _ zF)
     subst hx;by_cases hx:x3=y3
     case' neg=>
      have hq:(x3 == y3)=false:=Aag
      have HP:=Hq (HN Aai)
      clear HN HE HD HJ
      as_aux_lemma=>
       go_upto_region 11 with fail
       go_quiet (fail)
       go_wp2_with fail
       go_ret
       exact .no HP (fG _ zF)
     subst hx;have HT2:=Hq (HE rfl);clear HE HN eT zF;go_upto_region 11 with fail;go_quiet (fail);go_wp2_with fail;go_roundw
     case rel=>exact⟨k+1,Aaa,Aaf,fG _ aY,HT2⟩
     case measure=>simp[intOf];omega
    .have hke:k=out.length:=Aaa
     subst hke;have hnlt:decide ((out.length:Int) < (out.length:Int))=false:=Aac
     have azQ:=Hq (take_same ajT HT);have HS2:=aY;clear aY HT eT zF;go_wp2_with fail;clear c0 c1 c2 c3 c4 c5 c6 c7 c8 e0 e1 e2 e3 e4 e5 e6 e7 e8;go_loopw [7] (λi wr=>∃k:Nat,k<=seen.length/\i= .int .i64 k/\aH w1 wr/\Hid (seen.take k=rP.take k)) (λi _=>seen.length - (intOf i).toNat)
     case atStart=>exact⟨0,aE1 _,rfl,HS2,rfl⟩
     case round=>
      obtain⟨k,hk,rfl,hbel,HT⟩:=hrel;have aY:=Hq hbel;clear hbel HS2;obtain⟨c0,c1,c2,c3,c4,c5,c6,c7,c8⟩:=nine (aj HA1 aY);obtain⟨e0,e1,e2,e3,e4,e5,e6,e7,e8⟩:=nine (aj NW aY);have eT:=Hq (HB1.trans (aY.mono HB1.size));have zF:=Hq (BA.trans (aY.mono BA.size));by_cases hlt:k < seen.length
      .have hk2:k < rP.length:=(ah aay)▸hlt;have HE:=Hq (λe=>nM aay hlt HT e);have HN:=Hq (show seen[k]≠rP[k]->¬PR from λe h=>Kj hlt hk2 e (by have h:=ah HD h;exact h.2.2.2.2.2.2.1));obtain⟨g1,o1,b1,d1,rfl,hg1,s0,s1,s2,s3⟩:=N8.s.below eT k hlt;obtain⟨g2,o2,b2,d2,rfl,hg2,t0,t1,t2,t3⟩:=Sw.s.below eT k hk2;have hln:=HZ.sk seen[k] (aE2 hlt);have HPC:=Hq (λd os=>HSI b1 b2 d1 d2 seen[k].ids rP[k].ids (Sort.grow (redrawn wr d) os) hln (GR.At.below s3 (aFe wr d os)) (GR.At.below t3 (aFe wr d os)));clear s3 t3 hln;generalize seen[k]=x at *;generalize rP[k]=y at *;obtain⟨xf,xl,xs⟩:=x;obtain⟨yf,yl,ys⟩:=y;dsimp only at s0 s1 s2 t0 t1 t2;have y0:=aEL c6;have y1:=aEL e6;have y2:=aEL s0;have y3:=aEL s1;have y4:=aEL s2;have y5:=aEL t0;have y6:=aEL t1;have y7:=aEL t2;by_cases hx:xf=yf
       case' neg=>
        have hq:(xf != yf)=true:=Aag
        have HP:=Hq (HN Aai)
        clear HN HE HD HJ HPC
        as_aux_lemma=>
         go_upto_region 16 with fail
         refine aE0 Aab Aab ?_
         repeat (first|go_big_quiet_step (first|fail)|quiet_step (first|fail))
         refine aFs ?_
         intro _ hw'
         obtain⟨⟨dq,osq⟩,hw''⟩:=hw'
         subst hw''
         go_wp2_with fail
         go_ret
         exact .no HP (zF.trans ((aFe wr dq osq).mono zF.size))
       subst hx;by_cases hx:xl=yl
       case' neg=>
        have hq:(xl != yl)=true:=Aag
        have HP:=Hq (HN Aai)
        clear HN HE HD HJ HPC
        as_aux_lemma=>
         go_upto_region 16 with fail
         refine aE0 Aab Aab ?_
         repeat (first|go_big_quiet_step (first|fail)|quiet_step (first|fail))
         refine aFs ?_
         intro _ hw'
         obtain⟨⟨dq,osq⟩,hw''⟩:=hw'
         subst hw''
         go_wp2_with fail
         go_ret
         exact .no HP (zF.trans ((aFe wr dq osq).mono zF.size))
       subst hx;by_cases hx:xs=ys
       case' neg=>
        have p0:∀d os,Calls prog 98 #[.slice b1 xs.length d1,.slice b2 ys.length d2] (Sort.grow (redrawn wr d) os) λe w''=>e= .returned (.bool false)/\∃p:Regrown,w''=Sort.grow (redrawn wr p.d) p.os:=λd os=>aFk ((HPC d os).mono λ_ _ h=>h.of_no hx)
        have HP:=Hq (HN Aai)
        clear HN HE HD HJ HPC hx
        as_aux_lemma=>
         go_upto_region 16 with fail
         refine aE0 Aab Aab ?_
         repeat (first|go_big_quiet_step (first|(go_at_call 98;exact p0 _ _))|quiet_step (first|(go_at_call 98;exact p0 _ _)))
         refine aFs ?_
         intro _ hw'
         obtain⟨⟨dq,osq⟩,hw''⟩:=hw'
         subst hw''
         clear p0
         go_wp2_with fail
         go_ret
         exact .no HP (zF.trans ((aFe wr dq osq).mono zF.size))
       have p0:∀d os,Calls prog 98 #[.slice b1 xs.length d1,.slice b2 ys.length d2] (Sort.grow (redrawn wr d) os) λe w''=>e= .returned (.bool true)/\∃p:Regrown,w''=Sort.grow (redrawn wr p.d) p.os:=λd os=>aFk ((HPC d os).mono λ_ _ h=>h.of_yes hx)
       have HT2:=Hq (HE (by rw [hx]));clear HE HN eT zF HPC hx;go_upto_region 16 with fail;refine aE0 Aab Aab ?_;repeat (first|go_big_quiet_step (first|(go_at_call 98;exact p0 _ _))|quiet_step (first|(go_at_call 98;exact p0 _ _)))
       refine aFs ?_;intro _ hw';obtain⟨⟨dq,osq⟩,hw''⟩:=hw';subst hw'';have fI:=Hq (aY.trans ((aFe wr dq osq).mono aY.size));clear p0;go_wp2_with fail;go_roundw
       case rel=>exact⟨k+1,Aaa,Aaf,fI,HT2⟩
       case measure=>simp[intOf];omega
      .have hke:k=seen.length:=Aaa
       subst hke;have hnlt:decide ((seen.length:Int) < (seen.length:Int))=false:=Aac
       have alS:=Hq (take_same aay HT);have wZ:=aY;clear aY HT eT zF;go_wp2_with fail;clear c0 c1 c2 c3 c4 c5 c6 c7 c8 e0 e1 e2 e3 e4 e5 e6 e7 e8;go_loopw [8] (λi wr=>∃k:Nat,k<=reqs.length/\i= .int .i64 k/\aH w1 wr/\Hid (reqs.take k=tN.take k)) (λi _=>reqs.length - (intOf i).toNat)
       case atStart=>exact⟨0,aE1 _,rfl,wZ,rfl⟩
       case round=>
        obtain⟨k,hk,rfl,hbel,HT⟩:=hrel;have aY:=Hq hbel;clear hbel wZ;obtain⟨c0,c1,c2,c3,c4,c5,c6,c7,c8⟩:=nine (aj HA1 aY);obtain⟨e0,e1,e2,e3,e4,e5,e6,e7,e8⟩:=nine (aj NW aY);have eT:=Hq (HB1.trans (aY.mono HB1.size));have zF:=Hq (BA.trans (aY.mono BA.size));by_cases hlt:k < reqs.length
        .have hk2:k < tN.length:=(ah aax)▸hlt;have HE:=Hq (λe=>nM aax hlt HT e);have HN:=Hq (show reqs[k]≠tN[k]->¬PR from λe h=>Kj hlt hk2 e (by have h:=ah HD h;exact h.2.2.2.2.2.2.2.2));obtain⟨g1,o1,rfl,hg1,s0,s1,s2,s3⟩:=fT.four (GR.At.below N8.r eT) k hlt;obtain⟨g2,o2,rfl,hg2,t0,t1,t2,t3⟩:=fT.four (GR.At.below Sw.r eT) k hk2;generalize reqs[k]=x at *;generalize tN[k]=y at *;obtain⟨x0,x1,x2,x3⟩:=x;obtain⟨y0,y1,y2,y3⟩:=y;dsimp only at s0 s1 s2 s3 t0 t1 t2 t3;by_cases hx:x0=y0
         case' neg=>
          have hq:(x0 == y0)=false:=Aag
          have HP:=Hq (HN Aai)
          clear HN HE HD HJ
          as_aux_lemma=>
           go_upto_region 21 with fail
           go_quiet (fail)
           go_wp2_with fail
           go_ret
           exact .no HP (fG _ zF)
         subst hx;by_cases hx:x1=y1
         case' neg=>
          have hq:(x1.toList == y1.toList)=false:=CU hx
          have hr:¬x1.toList=y1.toList:=Abh
          have HP:=Hq (HN Aai)
          clear HN HE HD HJ hx
          as_aux_lemma=>
           go_upto_region 21 with fail
           go_quiet (fail)
           go_wp2_with fail
           go_ret
           exact .no HP (fG _ zF)
         subst hx;by_cases hx:x2=y2
         case' neg=>
          have hq:(x2 == y2)=false:=Aag
          have HP:=Hq (HN Aai)
          clear HN HE HD HJ
          as_aux_lemma=>
           go_upto_region 21 with fail
           go_quiet (fail)
           go_wp2_with fail
           go_ret
           exact .no HP (fG _ zF)
         subst hx;by_cases hx:x3=y3
         case' neg=>
          have hq:(x3 == y3)=false:=Aag
          have HP:=Hq (HN Aai)
          clear HN HE HD HJ
          as_aux_lemma=>
           go_upto_region 21 with fail
           go_quiet (fail)
           go_wp2_with fail
           go_ret
           exact .no HP (fG _ zF)
         subst hx;have HT2:=Hq (HE rfl);clear HE HN eT zF;go_upto_region 21 with fail;go_quiet (fail);go_wp2_with fail;go_roundw
         case rel=>exact⟨k+1,Aaa,Aaf,fG _ aY,HT2⟩
         case measure=>simp[intOf];omega
        .have hke:k=reqs.length:=Aaa
         subst hke;have hnlt:decide ((reqs.length:Int) < (reqs.length:Int))=false:=Aac
         have alR:=Hq (take_same aax HT);have HP:=Hq (HJ aAo ajS aau aav Epu azQ alS Hold alR);go_wp2_with fail;go_ret;exact .yes HP zF
end Go.Proofs.YtbolgdleijjgfaaGreatDoor
