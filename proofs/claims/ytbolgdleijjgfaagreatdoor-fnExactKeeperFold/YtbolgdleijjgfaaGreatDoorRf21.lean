/- Parts. -/
import Derived.Test.YtbolgdleijjgfaaGreatDoorRf19
namespace Go.Proofs.YtbolgdleijjgfaaGreatDoor
open Go.Proofs.Tryz
set_option maxHeartbeats 40000000
set_option maxRecDepth 100000
open Go.RowKit
open Mth
variable (a b:Option Addr) (ca cb:Nat) {w w':World} {p:Prop} {α:Type} {l:List α} {m:List α} {k g:Nat} {e:Ending}
def mG (w:World) (p:Prop) (e:Ending) (w':World):Prop:=(∃r,e= .returned (.bool r)/\(r=true↔p))/\aH w w'
theorem mG.no (h:¬p) (hb:aH w w'):mG w p (.returned (.bool false)) w':=⟨⟨_,rfl,by simp[h]⟩,hb⟩
theorem mG.yes (h:p) (hb:aH w w'):mG w p (.returned (.bool true)) w':=⟨⟨_,rfl,by simp[h]⟩,hb⟩
theorem nV {α:Type} {l m:List α} (hn:l.length=m.length) {k:Nat} (hk:k < l.length) (h:l.take k=m.take k) (e:l[k]=m[k]):l.take (k+1)=m.take (k+1):=by rw [aE0 hk,aE0 Aaa,h,e]
theorem take_same {α:Type} {l m:List α} (hn:l.length=m.length) (h:l.take l.length=m.take l.length):l=m:=by rwa [aFh,hn,aFh] at h
theorem Ku {α:Type} {l m:List α} {k:Nat} (hk:k < l.length) (hk2:k < m.length) (h:l[k]≠m[k]):l≠m:=λe=>h (by subst e;rfl)
theorem fI {V:World} (n:Nat) (h:aH w V):Below w.heap.size w (V.drewN n):=⟨h.os,h.tape,h.output,h.size,h.block⟩
theorem C9 {a b:ByteArray} (h:a≠b):(a.toList == b.toList)=false:=by
 cases e:(a.toList == b.toList) with
 |false=>rfl
 |true=>exact absurd (toList_inj (by simpa using e)) h
theorem QY (l m:List Int) (w:World) (hl:l.length<=1048600) (ha:bH w a l) (hb:bH w b m):
 Calls prog 177 #[.slice a l.length ca,.slice b m.length cb] w (mG w (l=m)):=by
 by_cases hn:l.length=m.length
 case' neg=>
  open ar7 in exact OQ
 have HN:=Hq hn;have HA:=Hq ha;have HB:=Hq hb;rw [<-hn];clear ha hb hn;go_in
 go_wp2_with fail;go_loopw [13] (λi wr=>∃k:Nat,k<=l.length/\i= .int .i64 k/\aH w wr/\Hid (l.take k=m.take k)) (λi _=>l.length - (intOf i).toNat)
 case atStart=>exact O6
 case round=>
  obtain⟨k,hk,rfl,hbel,HT⟩:=hrel;have aZ:=Hq hbel;clear hbel;by_cases hlt:k < l.length
  .open aps in exact aaY
  .exact abk
theorem afG (l m:List Pu) (w:World) (hl:l.length<=1048600) (ha:aG w a l) (hb:aG w b m):
 Calls prog 178 #[.slice a l.length ca,.slice b m.length cb] w (mG w (l=m)):=by
 by_cases hn:l.length=m.length
 case' neg=>
  open ar6 in exact OQ
 have HN:=Hq hn;have HA:=Hq ha;have HB:=Hq hb;rw [<-hn];clear ha hb hn;go_in
 go_wp2_with fail;go_loopw [13] (λi wr=>∃k:Nat,k<=l.length/\i= .int .i64 k/\aH w wr/\Hid (l.take k=m.take k)) (λi _=>l.length - (intOf i).toNat)
 case atStart=>exact O6
 case round=>
  obtain⟨k,hk,rfl,hbel,HT⟩:=hrel;have aZ:=Hq hbel;clear hbel;by_cases hlt:k < l.length
  .open apr in exact aaY
  .exact abk
theorem Zr (l m:List jI) (w:World) (hl:l.length<=1048600) (ha:SentAt w a l) (hb:SentAt w b m):
 Calls prog 179 #[.slice a l.length ca,.slice b m.length cb] w (mG w (l=m)):=by
 by_cases hn:l.length=m.length
 case' neg=>
  open ar5 in exact OQ
 have HN:=Hq hn;have HA:=Hq ha;have HB:=Hq hb;rw [<-hn];clear ha hb hn;go_in
 go_wp2_with fail;go_loopw [13] (λi wr=>∃k:Nat,k<=l.length/\i= .int .i64 k/\aH w wr/\Hid (l.take k=m.take k)) (λi _=>l.length - (intOf i).toNat)
 case atStart=>exact O6
 case round=>
  obtain⟨k,hk,rfl,hbel,HT⟩:=hrel;have aZ:=Hq hbel;clear hbel;by_cases hlt:k < l.length
  .open apq in exact aaY
  .exact abk
theorem adp (l m:List Rq) (w:World) (hl:l.length<=1048600) (ha:gB w a l) (hb:gB w b m):
 Calls prog 182 #[.slice a l.length ca,.slice b m.length cb] w (mG w (l=m)):=by
 by_cases hn:l.length=m.length
 case' neg=>
  open ar4 in exact OQ
 have HN:=Hq hn;have HA:=Hq ha;have HB:=Hq hb;rw [<-hn];clear ha hb hn;go_in
 go_wp2_with fail;go_loopw [13] (λi wr=>∃k:Nat,k<=l.length/\i= .int .i64 k/\aH w wr/\Hid (l.take k=m.take k)) (λi _=>l.length - (intOf i).toNat)
 case atStart=>exact O6
 case round=>
  obtain⟨k,hk,rfl,hbel,HT⟩:=hrel;have aZ:=Hq hbel;clear hbel;by_cases hlt:k < l.length
  .open apo in exact aaY
  .exact abk
theorem Ae (w:World) (a b:Obj):Below w.heap.size w ((w.alloc a).alloc b):=((aE3 _ _).alloc (aER _) _).alloc Aac _
theorem afx {n m:Nd} (h0:n.id=m.id) (h1:n.par=m.par) (h3:n.next=m.next) (h7:n.old=m.old) (h2:n.kids=m.kids) (h4:n.pu=m.pu) (h5:n.out=m.out) (h6:n.seen=m.seen) (h8:n.reqs=m.reqs):n=m:=by
 cases n
 cases m
 simp_all
theorem adq (x y:Sn) (a b:Option Addr) (ca cb:Nat) (w:World) (hl:x.ids.length<=1048600) (ha:bH w a x.ids) (hb:bH w b y.ids):
 Calls prog 181 #[.agg #[.int .i64 x.f,.int .i64 x.l,.slice a x.ids.length ca],.agg #[.int .i64 y.f,.int .i64 y.l,.slice b y.ids.length cb]] w (mG w (x=y)):=by
 obtain⟨f,l,ids⟩:=x;obtain⟨f2,l2,ab9⟩:=y;dsimp only at hl ha hb ⊢;have hbz:=Hq (Ae w (.cells #[.int .i64 f,.int .i64 l,.slice a ids.length ca] 130) (.cells #[.int .i64 f2,.int .i64 l2,.slice b ab9.length cb] 130));have HC:=Hq (λW (h:aH w W)=>QY a b ca cb ids ab9 W hl (ha.below h) (hb.below h));clear ha hb hl;by_cases hf:f=f2
 case' neg=>
  have hq:(f == f2)=false:=Acb
  have HP:=Hq (show¬(⟨f,l,ids⟩:Sn)=⟨f2,l2,ab9⟩ from λh=>hf (congrArg Sn.f h));exact aiM
 subst hf;by_cases hf:l=l2
 case' neg=>
  have hq:(l == l2)=false:=Acb
  have HP:=Hq (show¬(⟨f,l,ids⟩:Sn)=⟨f,l2,ab9⟩ from λh=>hf (congrArg Sn.l h));exact aiM
 subst hf;go_in
 go_wp2_with fail;refine(HC _ hbz).mono ?_;rintro e w1 ⟨⟨r,rfl,hr⟩,hb1⟩;have HR:=Hq (show r=true↔(⟨f,l,ids⟩:Sn)=⟨f,l,ab9⟩ by rw [hr];simp);have aZ:=Hq (Below.trans hbz (hb1.mono hbz.size));clear hb1 hbz hr HC;go_wp2_with fail;go_ret;exact⟨⟨r,rfl,HR⟩,aZ⟩
theorem Zq (l m:List Sn) (w:World) (hl:l.length<=1048600) (hi:∀s∈l,s.ids.length<=1048600) (ha:iA w a l) (hb:iA w b m):
 Calls prog 180 #[.slice a l.length ca,.slice b m.length cb,.func (.func 181) #[] #[]] w (mG w (l=m)):=by
 by_cases hn:l.length=m.length
 case' neg=>
  open ar8 in exact OQ
 have HN:=Hq hn;have HA:=Hq ha;have HB:=Hq hb;have HI:=Hq hi;rw [<-hn];clear ha hb hn hi;go_in
 go_wp2_with fail;go_loopw [17] (λi wr=>∃k:Nat,k<=l.length/\i= .int .i64 k/\aH w wr/\Hid (l.take k=m.take k)) (λi _=>l.length - (intOf i).toNat)
 case atStart=>exact O6
 case round=>
  obtain⟨k,hk,rfl,hbel,HT⟩:=hrel;have aZ:=Hq hbel;clear hbel;by_cases hlt:k < l.length
  .open apt in exact aaY
  .exact abk
theorem Zp (n m:Nd) (A B:bq) (w:World) (hz:eG n 1048576) (ha:cK w A n) (hb:cK w B m):
 Calls prog 145 #[gU n A,gU m B] w (mG w (n=m)):=by
 have HZ:=Hq hz;have HA:=Hq ha;have HB:=Hq hb;clear ha hb hz;by_cases hx:n.id=m.id
 case' neg=>
  have hq:(n.id == m.id)=false:=Aag
  exact aeB
 have qid:(n.id == m.id)=true:=Aai
 have aAs:=Hq hx;clear hx;by_cases hx:n.par=m.par
 case' neg=>
  have hq:(n.par == m.par)=false:=Aag
  exact aeB
 have azJ:(n.par == m.par)=true:=Aai
 have ajL:=Hq hx;clear hx;by_cases hx:n.next=m.next
 case' neg=>
  have hq:(n.next == m.next)=false:=Aag
  exact aeB
 have aje:(n.next == m.next)=true:=Aai
 have aav:=Hq hx;clear hx;by_cases hx:n.old=m.old
 case' neg=>
  have hq:(n.old == m.old)=false:=Aag
  exact aeB
 have azI:(n.old == m.old)=true:=Aai
 have Hold:=Hq hx;clear hx;go_in
 have h1:((w.alloc (.cells (dD n A) 39)).alloc (.cells (dD m B) 39)).heap[w.heap.size]?=some (.cells (dD n A) 39 (0,0)):=(aE4 _ _ _ Aac).trans (aEP w _)
 have h2:((w.alloc (.cells (dD n A) 39)).alloc (.cells (dD m B) 39)).heap[w.heap.size+1]?=some (.cells (dD m B) 39 (0,0)):=by
  have h:=aEP (w.alloc (.cells (dD n A) 39)) (.cells (dD m B) 39);rwa [show(w.alloc (.cells (dD n A) 39)).heap.size=w.heap.size+1 by simp] at h
 have hbz:=Ae w (.cells (dD n A) 39) (.cells (dD m B) 39);go_wp2_with fail;generalize (w.alloc (.cells (dD n A) 39)).alloc (.cells (dD m B) 39)=W0 at *;have HO:=Hq h1;have HP:=Hq h2;have HL:=Hq hbz;clear h1 h2 hbz;refine(QY A.k B.k A.ck B.ck n.kids m.kids _ (aEU HZ.k Aaa) (HA.below HL).k (HB.below HL).k).mono ?_;rintro e W ⟨⟨r,rfl,hr⟩,hb⟩;have yP:=Hq (aj HO hb);have rF:=Hq (aj HP hb);have HL2:=Hq (HL.trans (hb.mono HL.size));clear hb HO HP HL;have HO:=Hq yP;have HP:=Hq rF;have HL:=Hq HL2;clear yP rF HL2;cases r
 case' false=>
  exact aeD
 have aau:=Hq (hr.1 rfl);clear hr;obtain⟨c0,c1,c2,c3,c4,c5,c6,c7,c8⟩:=nine HO;obtain⟨d0,d1,d2,d3,d4,d5,d6,d7,d8⟩:=nine HP;go_wp2_with fail;clear c0 c1 c2 c3 c4 c5 c6 c7 c8 d0 d1 d2 d3 d4 d5 d6 d7 d8;refine(afG A.p B.p A.cp B.cp n.pu m.pu _ (aEU HZ.p Aaa) (HA.below HL).p (HB.below HL).p).mono ?_;rintro e W ⟨⟨r,rfl,hr⟩,hb⟩;have yP:=Hq (aj HO hb);have rF:=Hq (aj HP hb);have HL2:=Hq (HL.trans (hb.mono HL.size));clear hb HO HP HL;have HO:=Hq yP;have HP:=Hq rF;have HL:=Hq HL2;clear yP rF HL2;cases r
 case' false=>
  exact aeD
 have Hpu:=Hq (hr.1 rfl);clear hr;obtain⟨c0,c1,c2,c3,c4,c5,c6,c7,c8⟩:=nine HO;obtain⟨d0,d1,d2,d3,d4,d5,d6,d7,d8⟩:=nine HP;go_wp2_with fail;clear c0 c1 c2 c3 c4 c5 c6 c7 c8 d0 d1 d2 d3 d4 d5 d6 d7 d8;refine(Zr A.o B.o A.co B.co n.out m.out _ (aEU HZ.o Aaa) (HA.below HL).o (HB.below HL).o).mono ?_;rintro e W ⟨⟨r,rfl,hr⟩,hb⟩;have yP:=Hq (aj HO hb);have rF:=Hq (aj HP hb);have HL2:=Hq (HL.trans (hb.mono HL.size));clear hb HO HP HL;have HO:=Hq yP;have HP:=Hq rF;have HL:=Hq HL2;clear yP rF HL2;cases r
 case' false=>
  exact aeD
 have aAu:=Hq (hr.1 rfl);clear hr;obtain⟨c0,c1,c2,c3,c4,c5,c6,c7,c8⟩:=nine HO;obtain⟨d0,d1,d2,d3,d4,d5,d6,d7,d8⟩:=nine HP;go_wp2_with fail;clear c0 c1 c2 c3 c4 c5 c6 c7 c8 d0 d1 d2 d3 d4 d5 d6 d7 d8;refine(Zq A.s B.s A.cs B.cs n.seen m.seen _ (aEU HZ.s Aaa) (λs hs=>aEU (HZ.sk s hs) Aaa) (HA.below HL).s (HB.below HL).s).mono ?_;rintro e W ⟨⟨r,rfl,hr⟩,hb⟩;have yP:=Hq (aj HO hb);have rF:=Hq (aj HP hb);have HL2:=Hq (HL.trans (hb.mono HL.size));clear hb HO HP HL;have HO:=Hq yP;have HP:=Hq rF;have HL:=Hq HL2;clear yP rF HL2;cases r
 case' false=>
  exact aeD
 have amD:=Hq (hr.1 rfl);clear hr;obtain⟨c0,c1,c2,c3,c4,c5,c6,c7,c8⟩:=nine HO;obtain⟨d0,d1,d2,d3,d4,d5,d6,d7,d8⟩:=nine HP;go_wp2_with fail;clear c0 c1 c2 c3 c4 c5 c6 c7 c8 d0 d1 d2 d3 d4 d5 d6 d7 d8;refine(adp A.r B.r A.cr B.cr n.reqs m.reqs _ (aEU HZ.r Aaa) (HA.below HL).r (HB.below HL).r).mono ?_;rintro e W ⟨⟨r,rfl,hr⟩,hb⟩;have yP:=Hq (aj HO hb);have rF:=Hq (aj HP hb);have HL2:=Hq (HL.trans (hb.mono HL.size));clear hb HO HP HL;have HO:=Hq yP;have HP:=Hq rF;have HL:=Hq HL2;clear yP rF HL2;have HR:=Hq (show r=true↔n=m from⟨λh=>afx aAs ajL aav Hold aau Hpu aAu amD (hr.1 h),λh=>hr.2 (by rw [h])⟩);clear hr;go_wp2_with fail;go_ret;exact⟨⟨r,rfl,HR⟩,HL⟩
open Go.RowKit Go.Maps
abbrev lI (w:World) (sb mb:Nat) (low:Int):Prop:=w.heap[sb]?=some (.cells #[.int .i64 low,.map (some mb)] 306 (0,0))
theorem aA.of_keeps (h:Keeps g w w'):aA [g] w w':=⟨h.os,h.tape,h.output,h.size,λk hk hg=>h.block k hk (by simpa using hg)⟩
theorem fH.ne {sb mb n:Nat} {low:Int} {l:List Int} (h:fH w mb n l) (hs:lI w sb mb low):sb≠mb:=λe=>by
 obtain⟨D,⟨es,clock,hb,_⟩,_⟩:=h;unfold lI at hs;rw [e,hb] at hs;cases hs
theorem fH.far {mb n:Nat} {l:List Int} {cs:Array Value} {t:TypeId} {q:Nat×Nat} (h:fH w mb n l) (hs:w.heap[g]?=some (.cells cs t q)):g≠mb:=λe=>by
 obtain⟨D,⟨es,clock,hb,_⟩,_⟩:=h;rw [e,hb] at hs;cases hs
theorem akD (sb mb n:Nat) (low x:Int) (l:List Int) (w:World) (h0:0<=x) (h1:x<=1000000000) (hb:lI w sb mb low) (hs:fH w mb n l):
 Calls prog 250 #[.pointer (some ⟨sb,0,none⟩),.int .i64 x] w (dU w (.bool (decide (x < low)||decide (x∈l)))):=by
 have hsl:=ay hb;obtain⟨⟨m0,m1⟩,_⟩:=mW hb;have hrun:=hs.look x h0 h1;clear hb hs;cases hm:decide (x∈l)
 .rw [hm] at hrun;go_in
  exact Wl
 .rw [hm] at hrun;go_in
  exact Wl
theorem afp (sb mb n:Nat) (azi low L:Int) (l:List Int) (w:World) (hL:max azi low=L) (hb:lI w sb mb azi) (hs:fH w mb n l):
 Calls prog 249 #[.pointer (some ⟨sb,0,none⟩),.int .i64 low] w λe w'=>e= .returned (.tuple #[])/\lI w' sb mb L/\fH w' mb n (l.filter (λx=>decide (L<=x)))/\aA [sb,mb] w w':=by
 have hsl:=ay hb;have hml:=hs.lt;have hne:=hs.ne hb;have HB:=Hq hb;have HS:=Hq hs;obtain⟨⟨m0,m1⟩,f0,f1⟩:=mW hb;have HL:=Hq hL;clear hb hs hL;go_in
 go_upto_region 2 with fail;go_region
 rw [ah HL];go_upto_region 2 with fail;refine wp_at (λW hW=>?_);have hsz:(w.setCell ⟨sb,0,none⟩ (.int .i64 L)).heap.size=w.heap.size:=Aaq
 have e1:W.heap[w.heap.size]?=some (.cells #[.pointer (some ⟨sb,0,none⟩)] 267 (0,0)):=by
  rw [hW,<-hsz];exact aEP _ _
 have e2:lI W sb mb L:=by
  have h1:(w.setCell ⟨sb,0,none⟩ (.int .i64 L)).heap[sb]?=some (.cells #[.int .i64 L,.map (some mb)] 306 (0,0)):=aP HB 0 (.int .i64 L);rw [hW];exact(aE4 _ _ _ (by rw [hsz];exact hsl)).trans h1
 have e3:fH W mb n l:=HS.kept (by
  rw [hW]
  exact(aE4 _ _ _ (by rw [hsz];exact hml)).trans (aFe _ _ _ _ hne.symm))
 have e4:aA [sb,mb] w W:=by
  rw [hW];refine⟨rfl,rfl,rfl,Aaq,λk hk hkn=>?_⟩;have h1:k≠sb:=λe=>hkn (by simp[e])
  exact(aE4 _ _ _ (by rw [hsz];exact hk)).trans (aFe _ _ _ _ h1)
 have m0:W.cell? ⟨w.heap.size,0,none⟩=some (.pointer (some ⟨sb,0,none⟩)):=aE1 W _ 0 _ _ (0,0) e1;obtain⟨⟨m1,m2⟩,_⟩:=mW e2;have hwl:=ay e1;have hsl2:=ay e2;have HD:=Hq (akr w.heap.size sb mb n L l W e1 e2 e3);have E2:=Hq e2;have E4:=Hq e4;clear hW e1 e2 e3 e4 HB HS;go_wp2_with fail;refine HD.mono ?_;rintro e w' ⟨rfl,g1,g2⟩;have G1:=Hq g1;have G2:=Hq g2;clear g1 g2 HD m0 m1 m2;go_wp2_with fail;refine aGJ (v:= .tuple #[]) (by simp[results,results249,go_sem]) rfl ⟨rfl,?_,G1,E4.trans ((aA.of_keeps G2).mono Aac)⟩;unfold lI;rw [(ah G2).block sb hsl2 hne];exact E2
theorem setOf (f low:Int) (a:Option Addr) (cap:Nat) (ids:List Int) (w:World) (hl:ids.length<=40) (hb:∀x∈ids,0<=x/\x<=1000000000) (ha:bH w a ids):
 Calls prog 248 #[.agg #[.int .i64 f,.int .i64 low,.slice a ids.length cap]] w λe w'=>∃sb mb,e= .returned (.pointer (some ⟨sb,0,none⟩))/\w.heap.size<=sb/\w.heap.size<=mb/\lI w' sb mb low/\fH w' mb ids.length ids/\aH w w':=by
 have hmm:= @run_makeMap prog;have HA:=Hq ha;have HBD:=Hq hb;clear ha hb;go_in
 go_wp2_with fail;go_loopw [14] (λi wr=>∃k:Nat,k<=ids.length/\i= .int .i64 k/\lI wr (w.heap.size+1+1) (w.heap.size+1) low/\fH wr (w.heap.size+1) k (ids.take k)/\aH w wr) (λi _=>ids.length - (intOf i).toNat)
 case atStart=>
  have hz:∀(u:World) (o:Obj),(u.alloc o).heap.size=u.heap.size+1:=λu o=>by simp
  have hM:=fH.made (w.alloc (.cells #[.int .i64 f,.int .i64 low,.slice a ids.length cap] 130));have hS:=aEP ((w.alloc (.cells #[.int .i64 f,.int .i64 low,.slice a ids.length cap] 130)).alloc (.map #[] 0)) (.cells #[.int .i64 low,.map (some (w.heap.size+1))] 306);rw [hz] at hM;rw [hz,hz] at hS;refine⟨0,aE7 _,rfl,hS,?_,?_⟩
  .refine hM.kept ?_;exact aE4 _ _ _ (by rw [hz,hz];omega)
  .exact((au w _).alloc (by rw [hz];omega) _).alloc (by rw [hz,hz];omega) _
 case round=>
  obtain⟨k,hk,rfl,hS,hI,hbw⟩:=hrel;have HS:=Hq hS;have HI:=Hq hI;have iQ:=Hq hbw;obtain⟨⟨m0,m1⟩,_⟩:=mW hS;have hsl:=ay hS;clear hS hI hbw hmm;by_cases hlt:k < ids.length
  .obtain⟨g,off,rfl,hgw,q0⟩:=bH.one (GR.At.below HA iQ) k hlt;have HB:=Hq (HBD ids[k] (aE8 hlt));have HT:=Hq (show∀x,x∈ids[k]::ids.take k↔x∈ids.take (k+1) from λx=>by rw [aE0 hlt,aFd,aFb,aE6,or_comm]);generalize ids[k]=ik at *;obtain⟨w2,hrun,hI2,hK2⟩:=HI.store ik HB.1 HB.2 Aaj;have HI2:=Hq hI2;have oq:=Hq hK2;clear hI2 hK2;go_wp2_with fail;go_roundw
   case rel=>
    refine⟨k+1,Aaa,Aaf,?_,HI2.same HT,?_⟩
    .unfold lI;rw [(ah oq).block _ hsl Aaa];exact HS
    .exact iQ.trans ⟨oq.os,oq.tape,oq.output,oq.size,λj hj=>oq.block j (by have:=iQ.size;omega) Aaa⟩
   case measure=>simp[intOf];omega
  .have hke:k=ids.length:=Aaa
   subst hke;have hnlt:decide ((ids.length:Int) < (ids.length:Int))=false:=Aac
   go_wp2_with fail;go_ret;refine⟨_,_,rfl,Aaa,Aaa,HS,?_,iQ⟩;have h:=ah HI;rwa [aFh] at h
theorem mG.of_yes (h:mG w p e w') (hp:p):e= .returned (.bool true)/\aH w w':=by
 obtain⟨⟨r,rfl,hr⟩,hb⟩:=h;rw [hr.2 hp];exact⟨rfl,hb⟩
theorem mG.of_no (h:mG w p e w') (hp:¬p):e= .returned (.bool false)/\aH w w':=by
 obtain⟨⟨r,rfl,hr⟩,hb⟩:=h;cases r
 .exact⟨rfl,hb⟩
 .exact absurd (hr.1 rfl) hp
theorem NA (l m:List Int) (w:World) (hl:l.length<=1048600) (ha:bH w a l) (hb:bH w b m):
 Calls prog 98 #[.slice a l.length ca,.slice b m.length cb] w (mG w (l=m)):=by
 by_cases hn:l.length=m.length
 case' neg=>
  have hd:((l.length:Int) != (m.length:Int))=true:=Aah
  have HP:=Hq (show¬l=m from λh=>hn (congrArg List.length h));clear hn ha hb;go_in
  go_wp2_with fail;go_ret;exact .no HP (aE3 _ _)
 have HN:=Hq hn;have HA:=Hq ha;have HB:=Hq hb;rw [<-hn];clear ha hb hn;go_in
 go_wp2_with fail;go_loopw [5] (λi wr=>∃k:Nat,k<=l.length/\i= .int .i64 k/\aH w wr/\Hid (l.take k=m.take k)) (λi _=>l.length - (intOf i).toNat)
 case atStart=>exact⟨0,aE7 _,rfl,aE3 _ _,rfl⟩
 case round=>
  obtain⟨k,hk,rfl,hbel,HT⟩:=hrel;have aZ:=Hq hbel;clear hbel;by_cases hlt:k < l.length
  .have hk2:k < m.length:=(ah HN)▸hlt;have HE:=Hq (λe=>nV HN hlt HT e);have HD:=Hq (λe=>Ku hlt hk2 e);obtain⟨g1,o1,rfl,hg1,s0⟩:=bH.one (GR.At.below HA aZ) k hlt;obtain⟨g2,o2,rfl,hg2,t0⟩:=bH.one (GR.At.below HB aZ) k hk2;generalize l[k]=x at *;generalize m[k]=y at *;clear hk2;by_cases hxy:x=y
   case' neg=>
    have hq:(x != y)=true:=by simpa using hxy
    have HP:=Hq (HD hxy);clear HD HE hxy;go_upto_region 6 with fail;go_quiet (fail);go_wp2_with fail;go_ret;exact .no HP (fI _ aZ)
   subst hxy;have HT2:=Hq (HE rfl);clear HE HD;go_upto_region 6 with fail;go_quiet (fail);go_wp2_with fail;go_roundw
   case rel=>exact⟨k+1,Aaa,Aaf,fI _ aZ,HT2⟩
   case measure=>simp[intOf];omega
  .have hke:k=l.length:=Aaa
   subst hke;have hnlt:decide ((l.length:Int) < (l.length:Int))=false:=Aac
   have HP:=Hq (take_same HN HT);go_wp2_with fail;go_ret;exact .yes HP aZ
theorem JH (n m:Nd) (A B:bq) (w:World) (hz:eG n 1048576) (ha:cK w A n) (hb:cK w B m):
 Calls prog 49 #[gU n A,gU m B] w (mG w (n=m)):=by
 obtain⟨hA,hB,hbw⟩:=abn w (.cells (dD n A) 39) (.cells (dD m B) 39);generalize hW:(w.alloc (.cells (dD n A) 39)).alloc (.cells (dD m B) 39)=W at *;have HA:=Hq hA;have HB:=Hq hB;have iQ:=Hq hbw;have Ob:=Hq (ha.below hbw);have SA:=Hq (hb.below hbw);have HSI:=Hq (λa b ca cb (l l2:List Int) (w:World) (hl:l.length<=1048576) ha hb=>NA a b ca cb l l2 w Aaa ha hb);have HZ:=Hq hz;have hzp:=hz.p;have hzo:=hz.o;have hzs:=hz.s;have hzr:=hz.r;clear hA hB hbw ha hb hz;obtain⟨id,par,kids,next,pu,out,seen,old,reqs⟩:=n;obtain⟨id2,M4,F9,Bh,pu2,CF,rZ,MV,uf⟩:=m;obtain⟨ak,ap,ao,as',ar,ck,cp,co,cs,cr⟩:=A;obtain⟨bk,bp,bo,bs,br,dk,dp,do',ds,dr⟩:=B;dsimp only at hzp hzo hzs hzr;have HD:=Hq (λh:(⟨id,par,kids,next,pu,out,seen,old,reqs⟩:Nd)=⟨id2,M4,F9,Bh,pu2,CF,rZ,MV,uf⟩=>show id=id2/\par=M4/\kids=F9/\next=Bh/\pu=pu2/\out=CF/\seen=rZ/\old=MV/\reqs=uf by simpa using h);have HJ:=Hq (fun(h0:id=id2) (h1:par=M4) (h2:kids=F9) (h3:next=Bh) (h4:pu=pu2) (h5:out=CF) (h6:seen=rZ) (h7:old=MV) (h8:reqs=uf)=>show(⟨id,par,kids,next,pu,out,seen,old,reqs⟩:Nd)=⟨id2,M4,F9,Bh,pu2,CF,rZ,MV,uf⟩ by rw [h0,h1,h2,h3,h4,h5,h6,h7,h8]);generalize ((⟨id,par,kids,next,pu,out,seen,old,reqs⟩:Nd)=⟨id2,M4,F9,Bh,pu2,CF,rZ,MV,uf⟩)=PR at *;have HA:Hid (W.heap[w.heap.size]?=some (.cells (wC id par ak kids.length ck next ap pu.length cp ao out.length co as' seen.length cs old ar reqs.length cr) 39 (0,0))):=HA;have HB:Hid (W.heap[w.heap.size+1]?=some (.cells (wC id2 M4 bk F9.length dk Bh bp pu2.length dp bo CF.length do' bs rZ.length ds MV br uf.length dr) 39 (0,0))):=HB;obtain⟨c0,c1,c2,c3,c4,c5,c6,c7,c8⟩:=nine HA;obtain⟨e0,e1,e2,e3,e4,e5,e6,e7,e8⟩:=nine HB;by_cases hx:id=id2
 case' neg=>
  have hq:(id != id2)=true:=Aag
  have HN:=Hq (show¬PR from λh=>hx (by have h:=ah HD h;exact h.1))
  clear hx HD HJ
  as_aux_lemma=>
   go_in
   go_upto_region 1 with fail
   clear hW
   go_wp2_with fail
   go_ret
   exact .no HN iQ
 have aAt:=Hq hx;have qid:(id != id2)=false:=Aai
 clear hx;by_cases hx:par=M4
 case' neg=>
  have hq:(par != M4)=true:=Aag
  have HN:=Hq (show¬PR from λh=>hx (by have h:=ah HD h;exact h.2.1))
  clear hx HD HJ
  as_aux_lemma=>
   go_in
   go_upto_region 1 with fail
   clear hW
   go_wp2_with fail
   go_ret
   exact .no HN iQ
 have ajL:=Hq hx;have azJ:(par != M4)=false:=Aai
 clear hx;go_in
 go_upto_region 1 with fail;clear hW;go_wp2_with fail;refine(HSI ak bk ck dk kids F9 W HZ.k Ob.k SA.k).mono ?_;rintro e w1 ⟨⟨r,rfl,hr⟩,hb1⟩;have HB1:=Hq hb1;have HA1:=Hq (aj HA hb1);have N9:=Hq (aj HB hb1);have Es:=Hq (iQ.trans (hb1.mono iQ.size));clear hb1 c0 c1 c2 c3 c4 c5 c6 c7 c8 e0 e1 e2 e3 e4 e5 e6 e7 e8 HA HB iQ;cases r
 case' false=>
  have HN:=Hq (show¬PR from λh=>by have h:=ah HD h;have h2:=hr.2 h.2.2.1;cases h2)
  clear hr HD HJ
  as_aux_lemma=>
   go_wp2_with fail
   go_ret
   exact .no HN Es
 have aau:=Hq (hr.1 rfl);clear hr;obtain⟨c0,c1,c2,c3,c4,c5,c6,c7,c8⟩:=nine HA1;obtain⟨e0,e1,e2,e3,e4,e5,e6,e7,e8⟩:=nine N9;by_cases hx:next=Bh
 case' neg=>
  have hq:(next != Bh)=true:=Aag
  have HN:=Hq (show¬PR from λh=>hx (by have h:=ah HD h;exact h.2.2.2.1))
  clear hx HD HJ
  as_aux_lemma=>
   go_wp2_with fail
   go_ret
   exact .no HN Es
 have aav:=Hq hx;have aje:(next != Bh)=false:=Aai
 clear hx;by_cases hx:old=MV
 case' neg=>
  have hq:(old != MV)=true:=Aag
  have HN:=Hq (show¬PR from λh=>hx (by have h:=ah HD h;exact h.2.2.2.2.2.2.2.1))
  clear hx HD HJ
  as_aux_lemma=>
   go_wp2_with fail
   go_ret
   exact .no HN Es
 have Hold:=Hq hx;have azI:(old != MV)=false:=Aai
 clear hx;by_cases hx:pu.length=pu2.length
 case' neg=>
  have hq:((pu.length:Int) != (pu2.length:Int))=true:=Aah
  have HN:=Hq (show¬PR from λh=>hx (by have h:=ah HD h;exact congrArg List.length h.2.2.2.2.1))
  clear hx HD HJ
  as_aux_lemma=>
   go_wp2_with fail
   go_ret
   exact .no HN Es
 have Lpu:=Hq hx;have qpu:((pu.length:Int) != (pu2.length:Int))=false:=Aai
 clear hx;by_cases hx:out.length=CF.length
 case' neg=>
  have hq:((out.length:Int) != (CF.length:Int))=true:=Aah
  have HN:=Hq (show¬PR from λh=>hx (by have h:=ah HD h;exact congrArg List.length h.2.2.2.2.2.1))
  clear hx HD HJ
  as_aux_lemma=>
   go_wp2_with fail
   go_ret
   exact .no HN Es
 have ajM:=Hq hx;have aDj:((out.length:Int) != (CF.length:Int))=false:=Aai
 clear hx;by_cases hx:seen.length=rZ.length
 case' neg=>
  have hq:((seen.length:Int) != (rZ.length:Int))=true:=Aah
  have HN:=Hq (show¬PR from λh=>hx (by have h:=ah HD h;exact congrArg List.length h.2.2.2.2.2.2.1))
  clear hx HD HJ
  as_aux_lemma=>
   go_wp2_with fail
   go_ret
   exact .no HN Es
 have aax:=Hq hx;have azL:((seen.length:Int) != (rZ.length:Int))=false:=Aai
 clear hx;by_cases hx:reqs.length=uf.length
 case' neg=>
  have hq:((reqs.length:Int) != (uf.length:Int))=true:=Aah
  have HN:=Hq (show¬PR from λh=>hx (by have h:=ah HD h;exact congrArg List.length h.2.2.2.2.2.2.2.2))
  clear hx HD HJ
  as_aux_lemma=>
   go_wp2_with fail
   go_ret
   exact .no HN Es
 have aaw:=Hq hx;have azK:((reqs.length:Int) != (uf.length:Int))=false:=Aai
 clear hx;go_wp2_with fail;clear qid azJ aje azI qpu aDj azL azK c0 c1 c2 c3 c4 c5 c6 c7 c8 e0 e1 e2 e3 e4 e5 e6 e7 e8;have Il:=Hq (aE3 w1.heap.size w1);go_loopw [5] (λi wr=>∃k:Nat,k<=pu.length/\i= .int .i64 k/\aH w1 wr/\Hid (pu.take k=pu2.take k)) (λi _=>pu.length - (intOf i).toNat)
 case atStart=>exact⟨0,aE7 _,rfl,Il,rfl⟩
 case round=>
  obtain⟨k,hk,rfl,hbel,HT⟩:=hrel;have aZ:=Hq hbel;clear hbel Il;obtain⟨c0,c1,c2,c3,c4,c5,c6,c7,c8⟩:=nine (aj HA1 aZ);obtain⟨e0,e1,e2,e3,e4,e5,e6,e7,e8⟩:=nine (aj N9 aZ);have eY:=Hq (HB1.trans (aZ.mono HB1.size));have zM:=Hq (Es.trans (aZ.mono Es.size));by_cases hlt:k < pu.length
  .have hk2:k < pu2.length:=(ah Lpu)▸hlt;have HE:=Hq (λe=>nV Lpu hlt HT e);have HN:=Hq (show pu[k]≠pu2[k]->¬PR from λe h=>Ku hlt hk2 e (by have h:=ah HD h;exact h.2.2.2.2.1));obtain⟨g1,o1,rfl,hg1,s0,s1,s2,s3⟩:=aG.four (GR.At.below Ob.p eY) k hlt;obtain⟨g2,o2,rfl,hg2,t0,t1,t2,t3⟩:=aG.four (GR.At.below SA.p eY) k hk2;generalize pu[k]=x at *;generalize pu2[k]=y at *;obtain⟨x0,x1,x2,x3⟩:=x;obtain⟨y0,y1,y2,y3⟩:=y;dsimp only at s0 s1 s2 s3 t0 t1 t2 t3;by_cases hx:x0=y0
   case' neg=>
    have hq:(x0.toList == y0.toList)=false:=C9 hx
    have hr:¬x0.toList=y0.toList:=Abh
    have HP:=Hq (HN Aai)
    clear HN HE HD HJ hx
    as_aux_lemma=>
     go_upto_region 6 with fail
     go_quiet (fail)
     go_wp2_with fail
     go_ret
     exact .no HP (fI _ zM)
   subst hx;by_cases hx:x1=y1
   case' neg=>
    have hq:(x1 == y1)=false:=Aag
    have HP:=Hq (HN Aai)
    clear HN HE HD HJ
    as_aux_lemma=>
     go_upto_region 6 with fail
     go_quiet (fail)
     go_wp2_with fail
     go_ret
     exact .no HP (fI _ zM)
   subst hx;by_cases hx:x2=y2
   case' neg=>
    have hq:(x2 == y2)=false:=Aag
    have HP:=Hq (HN Aai)
    clear HN HE HD HJ
    as_aux_lemma=>
     go_upto_region 6 with fail
     go_quiet (fail)
     go_wp2_with fail
     go_ret
     exact .no HP (fI _ zM)
   subst hx;by_cases hx:x3=y3
   case' neg=>
    have hq:(x3 == y3)=false:=Aag
    have HP:=Hq (HN Aai)
    clear HN HE HD HJ
    as_aux_lemma=>
     go_upto_region 6 with fail
     go_quiet (fail)
     go_wp2_with fail
     go_ret
     exact .no HP (fI _ zM)
   subst hx;have HT2:=Hq (HE rfl);clear HE HN eY zM;go_upto_region 6 with fail;go_quiet (fail);go_wp2_with fail;go_roundw
   case rel=>exact⟨k+1,Aaa,Aaf,fI _ aZ,HT2⟩
   case measure=>simp[intOf];omega
  .have hke:k=pu.length:=Aaa
   subst hke;have hnlt:decide ((pu.length:Int) < (pu.length:Int))=false:=Aac
   have Epu:=Hq (take_same Lpu HT);have zJ:=aZ;clear aZ HT eY zM;go_wp2_with fail;clear c0 c1 c2 c3 c4 c5 c6 c7 c8 e0 e1 e2 e3 e4 e5 e6 e7 e8;go_loopw [6] (λi wr=>∃k:Nat,k<=out.length/\i= .int .i64 k/\aH w1 wr/\Hid (out.take k=CF.take k)) (λi _=>out.length - (intOf i).toNat)
   case atStart=>exact⟨0,aE7 _,rfl,zJ,rfl⟩
   case round=>
    obtain⟨k,hk,rfl,hbel,HT⟩:=hrel;have aZ:=Hq hbel;clear hbel zJ;obtain⟨c0,c1,c2,c3,c4,c5,c6,c7,c8⟩:=nine (aj HA1 aZ);obtain⟨e0,e1,e2,e3,e4,e5,e6,e7,e8⟩:=nine (aj N9 aZ);have eY:=Hq (HB1.trans (aZ.mono HB1.size));have zM:=Hq (Es.trans (aZ.mono Es.size));by_cases hlt:k < out.length
    .have hk2:k < CF.length:=(ah ajM)▸hlt;have HE:=Hq (λe=>nV ajM hlt HT e);have HN:=Hq (show out[k]≠CF[k]->¬PR from λe h=>Ku hlt hk2 e (by have h:=ah HD h;exact h.2.2.2.2.2.1));obtain⟨g1,o1,rfl,hg1,s0,s1,s2,s3⟩:=SentAt.four (GR.At.below Ob.o eY) k hlt;obtain⟨g2,o2,rfl,hg2,t0,t1,t2,t3⟩:=SentAt.four (GR.At.below SA.o eY) k hk2;generalize out[k]=x at *;generalize CF[k]=y at *;obtain⟨x0,x1,x2,x3⟩:=x;obtain⟨y0,y1,y2,y3⟩:=y;dsimp only at s0 s1 s2 s3 t0 t1 t2 t3;by_cases hx:x0=y0
     case' neg=>
      have hq:(x0 == y0)=false:=Aag
      have HP:=Hq (HN Aai)
      clear HN HE HD HJ
      as_aux_lemma=>
       go_upto_region 11 with fail
       go_quiet (fail)
       go_wp2_with fail
       go_ret
       exact .no HP (fI _ zM)
     subst hx;by_cases hx:x1=y1
     case' neg=>
      have hq:(x1 == y1)=false:=Aag
      have HP:=Hq (HN Aai)
      clear HN HE HD HJ
      as_aux_lemma=>
       go_upto_region 11 with fail
       go_quiet (fail)
       go_wp2_with fail
       go_ret
       exact .no HP (fI _ zM)
     subst hx;by_cases hx:x2=y2
     case' neg=>
      have hq:(x2.toList == y2.toList)=false:=C9 hx
      have hr:¬x2.toList=y2.toList:=Abh
      have HP:=Hq (HN Aai)
      clear HN HE HD HJ hx
      as_aux_lemma=>
       go_upto_region 11 with fail
       go_quiet (fail)
       go_wp2_with fail
       go_ret
       exact .no HP (fI _ zM)
     subst hx;by_cases hx:x3=y3
     case' neg=>
      have hq:(x3 == y3)=false:=Aag
      have HP:=Hq (HN Aai)
      clear HN HE HD HJ
      as_aux_lemma=>
       go_upto_region 11 with fail
       go_quiet (fail)
       go_wp2_with fail
       go_ret
       exact .no HP (fI _ zM)
     subst hx;have HT2:=Hq (HE rfl);clear HE HN eY zM;go_upto_region 11 with fail;go_quiet (fail);go_wp2_with fail;go_roundw
     case rel=>exact⟨k+1,Aaa,Aaf,fI _ aZ,HT2⟩
     case measure=>simp[intOf];omega
    .have hke:k=out.length:=Aaa
     subst hke;have hnlt:decide ((out.length:Int) < (out.length:Int))=false:=Aac
     have azW:=Hq (take_same ajM HT);have HS2:=aZ;clear aZ HT eY zM;go_wp2_with fail;clear c0 c1 c2 c3 c4 c5 c6 c7 c8 e0 e1 e2 e3 e4 e5 e6 e7 e8;go_loopw [7] (λi wr=>∃k:Nat,k<=seen.length/\i= .int .i64 k/\aH w1 wr/\Hid (seen.take k=rZ.take k)) (λi _=>seen.length - (intOf i).toNat)
     case atStart=>exact⟨0,aE7 _,rfl,HS2,rfl⟩
     case round=>
      obtain⟨k,hk,rfl,hbel,HT⟩:=hrel;have aZ:=Hq hbel;clear hbel HS2;obtain⟨c0,c1,c2,c3,c4,c5,c6,c7,c8⟩:=nine (aj HA1 aZ);obtain⟨e0,e1,e2,e3,e4,e5,e6,e7,e8⟩:=nine (aj N9 aZ);have eY:=Hq (HB1.trans (aZ.mono HB1.size));have zM:=Hq (Es.trans (aZ.mono Es.size));by_cases hlt:k < seen.length
      .have hk2:k < rZ.length:=(ah aax)▸hlt;have HE:=Hq (λe=>nV aax hlt HT e);have HN:=Hq (show seen[k]≠rZ[k]->¬PR from λe h=>Ku hlt hk2 e (by have h:=ah HD h;exact h.2.2.2.2.2.2.1));obtain⟨g1,o1,b1,d1,rfl,hg1,s0,s1,s2,s3⟩:=Ob.s.below eY k hlt;obtain⟨g2,o2,b2,d2,rfl,hg2,t0,t1,t2,t3⟩:=SA.s.below eY k hk2;have hln:=HZ.sk seen[k] (aE8 hlt);have HPC:=Hq (λd os=>HSI b1 b2 d1 d2 seen[k].ids rZ[k].ids (Sort.grow (redrawn wr d) os) hln (GR.At.below s3 (aFl wr d os)) (GR.At.below t3 (aFl wr d os)));clear s3 t3 hln;generalize seen[k]=x at *;generalize rZ[k]=y at *;obtain⟨xf,xl,xs⟩:=x;obtain⟨yf,yl,ys⟩:=y;dsimp only at s0 s1 s2 t0 t1 t2;have y0:=aEQ c6;have y1:=aEQ e6;have y2:=aEQ s0;have y3:=aEQ s1;have y4:=aEQ s2;have y5:=aEQ t0;have y6:=aEQ t1;have y7:=aEQ t2;by_cases hx:xf=yf
       case' neg=>
        have hq:(xf != yf)=true:=Aag
        have HP:=Hq (HN Aai)
        clear HN HE HD HJ HPC
        as_aux_lemma=>
         go_upto_region 16 with fail
         refine aE5 Aab Aab ?_
         repeat (first|go_big_quiet_step (first|fail)|quiet_step (first|fail))
         refine aFy ?_
         intro _ hw'
         obtain⟨⟨dq,osq⟩,hw''⟩:=hw'
         subst hw''
         go_wp2_with fail
         go_ret
         exact .no HP (zM.trans ((aFl wr dq osq).mono zM.size))
       subst hx;by_cases hx:xl=yl
       case' neg=>
        have hq:(xl != yl)=true:=Aag
        have HP:=Hq (HN Aai)
        clear HN HE HD HJ HPC
        as_aux_lemma=>
         go_upto_region 16 with fail
         refine aE5 Aab Aab ?_
         repeat (first|go_big_quiet_step (first|fail)|quiet_step (first|fail))
         refine aFy ?_
         intro _ hw'
         obtain⟨⟨dq,osq⟩,hw''⟩:=hw'
         subst hw''
         go_wp2_with fail
         go_ret
         exact .no HP (zM.trans ((aFl wr dq osq).mono zM.size))
       subst hx;by_cases hx:xs=ys
       case' neg=>
        have p0:∀d os,Calls prog 98 #[.slice b1 xs.length d1,.slice b2 ys.length d2] (Sort.grow (redrawn wr d) os) λe w''=>e= .returned (.bool false)/\∃p:Regrown,w''=Sort.grow (redrawn wr p.d) p.os:=λd os=>aFr ((HPC d os).mono λ_ _ h=>h.of_no hx)
        have HP:=Hq (HN Aai)
        clear HN HE HD HJ HPC hx
        as_aux_lemma=>
         go_upto_region 16 with fail
         refine aE5 Aab Aab ?_
         repeat (first|go_big_quiet_step (first|(go_at_call 98;exact p0 _ _))|quiet_step (first|(go_at_call 98;exact p0 _ _)))
         refine aFy ?_
         intro _ hw'
         obtain⟨⟨dq,osq⟩,hw''⟩:=hw'
         subst hw''
         clear p0
         go_wp2_with fail
         go_ret
         exact .no HP (zM.trans ((aFl wr dq osq).mono zM.size))
       have p0:∀d os,Calls prog 98 #[.slice b1 xs.length d1,.slice b2 ys.length d2] (Sort.grow (redrawn wr d) os) λe w''=>e= .returned (.bool true)/\∃p:Regrown,w''=Sort.grow (redrawn wr p.d) p.os:=λd os=>aFr ((HPC d os).mono λ_ _ h=>h.of_yes hx)
       have HT2:=Hq (HE (by rw [hx]));clear HE HN eY zM HPC hx;go_upto_region 16 with fail;refine aE5 Aab Aab ?_;repeat (first|go_big_quiet_step (first|(go_at_call 98;exact p0 _ _))|quiet_step (first|(go_at_call 98;exact p0 _ _)))
       refine aFy ?_;intro _ hw';obtain⟨⟨dq,osq⟩,hw''⟩:=hw';subst hw'';have fO:=Hq (aZ.trans ((aFl wr dq osq).mono aZ.size));clear p0;go_wp2_with fail;go_roundw
       case rel=>exact⟨k+1,Aaa,Aaf,fO,HT2⟩
       case measure=>simp[intOf];omega
      .have hke:k=seen.length:=Aaa
       subst hke;have hnlt:decide ((seen.length:Int) < (seen.length:Int))=false:=Aac
       have alJ:=Hq (take_same aax HT);have vQ:=aZ;clear aZ HT eY zM;go_wp2_with fail;clear c0 c1 c2 c3 c4 c5 c6 c7 c8 e0 e1 e2 e3 e4 e5 e6 e7 e8;go_loopw [8] (λi wr=>∃k:Nat,k<=reqs.length/\i= .int .i64 k/\aH w1 wr/\Hid (reqs.take k=uf.take k)) (λi _=>reqs.length - (intOf i).toNat)
       case atStart=>exact⟨0,aE7 _,rfl,vQ,rfl⟩
       case round=>
        obtain⟨k,hk,rfl,hbel,HT⟩:=hrel;have aZ:=Hq hbel;clear hbel vQ;obtain⟨c0,c1,c2,c3,c4,c5,c6,c7,c8⟩:=nine (aj HA1 aZ);obtain⟨e0,e1,e2,e3,e4,e5,e6,e7,e8⟩:=nine (aj N9 aZ);have eY:=Hq (HB1.trans (aZ.mono HB1.size));have zM:=Hq (Es.trans (aZ.mono Es.size));by_cases hlt:k < reqs.length
        .have hk2:k < uf.length:=(ah aaw)▸hlt;have HE:=Hq (λe=>nV aaw hlt HT e);have HN:=Hq (show reqs[k]≠uf[k]->¬PR from λe h=>Ku hlt hk2 e (by have h:=ah HD h;exact h.2.2.2.2.2.2.2.2));obtain⟨g1,o1,rfl,hg1,s0,s1,s2,s3⟩:=gB.four (GR.At.below Ob.r eY) k hlt;obtain⟨g2,o2,rfl,hg2,t0,t1,t2,t3⟩:=gB.four (GR.At.below SA.r eY) k hk2;generalize reqs[k]=x at *;generalize uf[k]=y at *;obtain⟨x0,x1,x2,x3⟩:=x;obtain⟨y0,y1,y2,y3⟩:=y;dsimp only at s0 s1 s2 s3 t0 t1 t2 t3;by_cases hx:x0=y0
         case' neg=>
          have hq:(x0 == y0)=false:=Aag
          have HP:=Hq (HN Aai)
          clear HN HE HD HJ
          as_aux_lemma=>
           go_upto_region 21 with fail
           go_quiet (fail)
           go_wp2_with fail
           go_ret
           exact .no HP (fI _ zM)
         subst hx;by_cases hx:x1=y1
         case' neg=>
          have hq:(x1.toList == y1.toList)=false:=C9 hx
          have hr:¬x1.toList=y1.toList:=Abh
          have HP:=Hq (HN Aai)
          clear HN HE HD HJ hx
          as_aux_lemma=>
           go_upto_region 21 with fail
           go_quiet (fail)
           go_wp2_with fail
           go_ret
           exact .no HP (fI _ zM)
         subst hx;by_cases hx:x2=y2
         case' neg=>
          have hq:(x2 == y2)=false:=Aag
          have HP:=Hq (HN Aai)
          clear HN HE HD HJ
          as_aux_lemma=>
           go_upto_region 21 with fail
           go_quiet (fail)
           go_wp2_with fail
           go_ret
           exact .no HP (fI _ zM)
         subst hx;by_cases hx:x3=y3
         case' neg=>
          have hq:(x3 == y3)=false:=Aag
          have HP:=Hq (HN Aai)
          clear HN HE HD HJ
          as_aux_lemma=>
           go_upto_region 21 with fail
           go_quiet (fail)
           go_wp2_with fail
           go_ret
           exact .no HP (fI _ zM)
         subst hx;have HT2:=Hq (HE rfl);clear HE HN eY zM;go_upto_region 21 with fail;go_quiet (fail);go_wp2_with fail;go_roundw
         case rel=>exact⟨k+1,Aaa,Aaf,fI _ aZ,HT2⟩
         case measure=>simp[intOf];omega
        .have hke:k=reqs.length:=Aaa
         subst hke;have hnlt:decide ((reqs.length:Int) < (reqs.length:Int))=false:=Aac
         have alI:=Hq (take_same aaw HT);have HP:=Hq (HJ aAt ajL aau aav Epu azW alJ Hold alI);go_wp2_with fail;go_ret;exact .yes HP zM
end Go.Proofs.YtbolgdleijjgfaaGreatDoor
