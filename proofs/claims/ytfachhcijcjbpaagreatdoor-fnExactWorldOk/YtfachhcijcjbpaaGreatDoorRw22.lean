/- Parts. -/
import Derived.Test.YtfachhcijcjbpaaGreatDoorRw20
namespace Go.Proofs.YtfachhcijcjbpaaGreatDoor
open Go.Proofs.Tryz
set_option maxHeartbeats 40000000
set_option maxRecDepth 100000
open Go.RowKit
open Mth
variable (a b:Option Addr) (ca cb:Nat) {w w':World} {p:Prop} {α:Type} {l:List α} {m:List α} {k:Nat} {e:Ending}
def iU (w:World) (p:Prop) (e:Ending) (w':World):Prop:=(∃r,e= .returned (.bool r)/\(r=true↔p))/\aG w w'
theorem iU.no (h:¬p) (hb:aG w w'):iU w p (.returned (.bool false)) w':=⟨⟨_,rfl,by simp[h]⟩,hb⟩
theorem iU.yes (h:p) (hb:aG w w'):iU w p (.returned (.bool true)) w':=⟨⟨_,rfl,by simp[h]⟩,hb⟩
theorem nA {α:Type} {l m:List α} (hn:l.length=m.length) {k:Nat} (hk:k < l.length) (h:l.take k=m.take k) (e:l[k]=m[k]):l.take (k+1)=m.take (k+1):=by rw [aEF hk,aEF Aaa,h,e]
theorem take_same {α:Type} {l m:List α} (hn:l.length=m.length) (h:l.take l.length=m.take l.length):l=m:=by rwa [aEW,hn,aEW] at h
theorem Kt {α:Type} {l m:List α} {k:Nat} (hk:k < l.length) (hk2:k < m.length) (h:l[k]≠m[k]):l≠m:=λe=>h (by subst e;rfl)
theorem fu {V:World} (n:Nat) (h:aG w V):Below w.heap.size w (V.drewN n):=⟨h.os,h.tape,h.output,h.size,h.block⟩
theorem CK {a b:ByteArray} (h:a≠b):(a.toList == b.toList)=false:=by
 cases e:(a.toList == b.toList) with
 |false=>rfl
 |true=>exact absurd (toList_inj (by simpa using e)) h
theorem Gl (l m:List Int) (w:World) (hl:l.length<=1048600) (ha:aK w a l) (hb:aK w b m):
 Calls prog 44 #[.slice a l.length ca,.slice b m.length cb] w (iU w (l=m)):=by
 by_cases hn:l.length=m.length
 case' neg=>
  open arR in exact O6
 have HN:=Hq hn;have HA:=Hq ha;have HB:=Hq hb;rw [<-hn];clear ha hb hn;go_in
 go_wp2_with fail;go_loopw [13] (λi wr=>∃k:Nat,k<=l.length/\i= .int .i64 k/\aG w wr/\Hid (l.take k=m.take k)) (λi _=>l.length - (intOf i).toNat)
 case atStart=>exact Pk
 case round=>
  obtain⟨k,hk,rfl,hbel,HT⟩:=hrel;have aO:=Hq hbel;clear hbel;by_cases hlt:k < l.length
  .open apS in exact aa1
  .exact abq
theorem afQ (l m:List Pu) (w:World) (hl:l.length<=1048600) (ha:aH w a l) (hb:aH w b m):
 Calls prog 186 #[.slice a l.length ca,.slice b m.length cb] w (iU w (l=m)):=by
 by_cases hn:l.length=m.length
 case' neg=>
  open arQ in exact O6
 have HN:=Hq hn;have HA:=Hq ha;have HB:=Hq hb;rw [<-hn];clear ha hb hn;go_in
 go_wp2_with fail;go_loopw [13] (λi wr=>∃k:Nat,k<=l.length/\i= .int .i64 k/\aG w wr/\Hid (l.take k=m.take k)) (λi _=>l.length - (intOf i).toNat)
 case atStart=>exact Pk
 case round=>
  obtain⟨k,hk,rfl,hbel,HT⟩:=hrel;have aO:=Hq hbel;clear hbel;by_cases hlt:k < l.length
  .open apR in exact aa1
  .exact abq
theorem Zn (l m:List jI) (w:World) (hl:l.length<=1048600) (ha:SentAt w a l) (hb:SentAt w b m):
 Calls prog 187 #[.slice a l.length ca,.slice b m.length cb] w (iU w (l=m)):=by
 by_cases hn:l.length=m.length
 case' neg=>
  open arP in exact O6
 have HN:=Hq hn;have HA:=Hq ha;have HB:=Hq hb;rw [<-hn];clear ha hb hn;go_in
 go_wp2_with fail;go_loopw [13] (λi wr=>∃k:Nat,k<=l.length/\i= .int .i64 k/\aG w wr/\Hid (l.take k=m.take k)) (λi _=>l.length - (intOf i).toNat)
 case atStart=>exact Pk
 case round=>
  obtain⟨k,hk,rfl,hbel,HT⟩:=hrel;have aO:=Hq hbel;clear hbel;by_cases hlt:k < l.length
  .open apQ in exact aa1
  .exact abq
theorem adw (l m:List Rq) (w:World) (hl:l.length<=1048600) (ha:fJ w a l) (hb:fJ w b m):
 Calls prog 190 #[.slice a l.length ca,.slice b m.length cb] w (iU w (l=m)):=by
 by_cases hn:l.length=m.length
 case' neg=>
  open arO in exact O6
 have HN:=Hq hn;have HA:=Hq ha;have HB:=Hq hb;rw [<-hn];clear ha hb hn;go_in
 go_wp2_with fail;go_loopw [13] (λi wr=>∃k:Nat,k<=l.length/\i= .int .i64 k/\aG w wr/\Hid (l.take k=m.take k)) (λi _=>l.length - (intOf i).toNat)
 case atStart=>exact Pk
 case round=>
  obtain⟨k,hk,rfl,hbel,HT⟩:=hrel;have aO:=Hq hbel;clear hbel;by_cases hlt:k < l.length
  .open apP in exact aa1
  .exact abq
theorem zL (w:World) (a b:Obj):Below w.heap.size w ((w.alloc a).alloc b):=((aEK _ _).alloc (aEx _) _).alloc Aac _
theorem afH {n m:Nd} (h0:n.id=m.id) (h1:n.par=m.par) (h3:n.next=m.next) (h7:n.old=m.old) (h2:n.kids=m.kids) (h4:n.pu=m.pu) (h5:n.out=m.out) (h6:n.seen=m.seen) (h8:n.reqs=m.reqs):n=m:=by
 cases n
 cases m
 simp_all
theorem adx (x y:Sn) (a b:Option Addr) (ca cb:Nat) (w:World) (hl:x.ids.length<=1048600) (ha:aK w a x.ids) (hb:aK w b y.ids):
 Calls prog 189 #[.agg #[.int .i64 x.f,.int .i64 x.l,.slice a x.ids.length ca],.agg #[.int .i64 y.f,.int .i64 y.l,.slice b y.ids.length cb]] w (iU w (x=y)):=by
 obtain⟨f,l,ids⟩:=x;obtain⟨f2,l2,aci⟩:=y;dsimp only at hl ha hb ⊢;have hbz:=Hq (zL w (.cells #[.int .i64 f,.int .i64 l,.slice a ids.length ca] 144) (.cells #[.int .i64 f2,.int .i64 l2,.slice b aci.length cb] 144));have HC:=Hq (λW (h:aG w W)=>Gl a b ca cb ids aci W hl (ha.below h) (hb.below h));clear ha hb hl;by_cases hf:f=f2
 case' neg=>
  have hq:(f == f2)=false:=Abz
  have HP:=Hq (show¬(⟨f,l,ids⟩:Sn)=⟨f2,l2,aci⟩ from λh=>hf (congrArg Sn.f h));exact aiW
 subst hf;by_cases hf:l=l2
 case' neg=>
  have hq:(l == l2)=false:=Abz
  have HP:=Hq (show¬(⟨f,l,ids⟩:Sn)=⟨f,l2,aci⟩ from λh=>hf (congrArg Sn.l h));exact aiW
 subst hf;go_in
 go_wp2_with fail;refine(HC _ hbz).mono ?_;rintro e w1 ⟨⟨r,rfl,hr⟩,hb1⟩;have HR:=Hq (show r=true↔(⟨f,l,ids⟩:Sn)=⟨f,l,aci⟩ by rw [hr];simp);have aO:=Hq (Below.trans hbz (hb1.mono hbz.size));clear hb1 hbz hr HC;go_wp2_with fail;go_ret;exact⟨⟨r,rfl,HR⟩,aO⟩
theorem Zm (l m:List Sn) (w:World) (hl:l.length<=1048600) (hi:∀s∈l,s.ids.length<=1048600) (ha:gT w a l) (hb:gT w b m):
 Calls prog 188 #[.slice a l.length ca,.slice b m.length cb,.func (.func 189) #[] #[]] w (iU w (l=m)):=by
 by_cases hn:l.length=m.length
 case' neg=>
  open arS in exact O6
 have HN:=Hq hn;have HA:=Hq ha;have HB:=Hq hb;have HI:=Hq hi;rw [<-hn];clear ha hb hn hi;go_in
 go_wp2_with fail;go_loopw [17] (λi wr=>∃k:Nat,k<=l.length/\i= .int .i64 k/\aG w wr/\Hid (l.take k=m.take k)) (λi _=>l.length - (intOf i).toNat)
 case atStart=>exact Pk
 case round=>
  obtain⟨k,hk,rfl,hbel,HT⟩:=hrel;have aO:=Hq hbel;clear hbel;by_cases hlt:k < l.length
  .open apT in exact aa1
  .exact abq
theorem Zl (n m:Nd) (A B:bg) (w:World) (hz:eH n 1048576) (ha:bX w A n) (hb:bX w B m):
 Calls prog 161 #[gP n A,gP m B] w (iU w (n=m)):=by
 have HZ:=Hq hz;have HA:=Hq ha;have HB:=Hq hb;clear ha hb hz;by_cases hx:n.id=m.id
 case' neg=>
  have hq:(n.id == m.id)=false:=Aad
  exact aeM
 have qid:(n.id == m.id)=true:=Aak
 have az3:=Hq hx;clear hx;by_cases hx:n.par=m.par
 case' neg=>
  have hq:(n.par == m.par)=false:=Aad
  exact aeM
 have azm:(n.par == m.par)=true:=Aak
 have ajX:=Hq hx;clear hx;by_cases hx:n.next=m.next
 case' neg=>
  have hq:(n.next == m.next)=false:=Aad
  exact aeM
 have ajr:(n.next == m.next)=true:=Aak
 have aaB:=Hq hx;clear hx;by_cases hx:n.old=m.old
 case' neg=>
  have hq:(n.old == m.old)=false:=Aad
  exact aeM
 have azl:(n.old == m.old)=true:=Aak
 have Hold:=Hq hx;clear hx;go_in
 have h1:((w.alloc (.cells (dR n A) 53)).alloc (.cells (dR m B) 53)).heap[w.heap.size]?=some (.cells (dR n A) 53 (0,0)):=(aEI _ _ _ Aac).trans (aEu w _)
 have h2:((w.alloc (.cells (dR n A) 53)).alloc (.cells (dR m B) 53)).heap[w.heap.size+1]?=some (.cells (dR m B) 53 (0,0)):=by
  have h:=aEu (w.alloc (.cells (dR n A) 53)) (.cells (dR m B) 53);rwa [show(w.alloc (.cells (dR n A) 53)).heap.size=w.heap.size+1 by simp] at h
 have hbz:=zL w (.cells (dR n A) 53) (.cells (dR m B) 53);go_wp2_with fail;generalize (w.alloc (.cells (dR n A) 53)).alloc (.cells (dR m B) 53)=W0 at *;have HO:=Hq h1;have HP:=Hq h2;have HL:=Hq hbz;clear h1 h2 hbz;refine(Gl A.k B.k A.ck B.ck n.kids m.kids _ (aEA HZ.k Aaa) (HA.below HL).k (HB.below HL).k).mono ?_;rintro e W ⟨⟨r,rfl,hr⟩,hb⟩;have rQ:=Hq (aj HO hb);have mD:=Hq (aj HP hb);have HL2:=Hq (HL.trans (hb.mono HL.size));clear hb HO HP HL;have HO:=Hq rQ;have HP:=Hq mD;have HL:=Hq HL2;clear rQ mD HL2;cases r
 case' false=>
  exact aeP
 have aaA:=Hq (hr.1 rfl);clear hr;obtain⟨c0,c1,c2,c3,c4,c5,c6,c7,c8⟩:=nine HO;obtain⟨d0,d1,d2,d3,d4,d5,d6,d7,d8⟩:=nine HP;go_wp2_with fail;clear c0 c1 c2 c3 c4 c5 c6 c7 c8 d0 d1 d2 d3 d4 d5 d6 d7 d8;refine(afQ A.p B.p A.cp B.cp n.pu m.pu _ (aEA HZ.p Aaa) (HA.below HL).p (HB.below HL).p).mono ?_;rintro e W ⟨⟨r,rfl,hr⟩,hb⟩;have rQ:=Hq (aj HO hb);have mD:=Hq (aj HP hb);have HL2:=Hq (HL.trans (hb.mono HL.size));clear hb HO HP HL;have HO:=Hq rQ;have HP:=Hq mD;have HL:=Hq HL2;clear rQ mD HL2;cases r
 case' false=>
  exact aeP
 have Hpu:=Hq (hr.1 rfl);clear hr;obtain⟨c0,c1,c2,c3,c4,c5,c6,c7,c8⟩:=nine HO;obtain⟨d0,d1,d2,d3,d4,d5,d6,d7,d8⟩:=nine HP;go_wp2_with fail;clear c0 c1 c2 c3 c4 c5 c6 c7 c8 d0 d1 d2 d3 d4 d5 d6 d7 d8;refine(Zn A.o B.o A.co B.co n.out m.out _ (aEA HZ.o Aaa) (HA.below HL).o (HB.below HL).o).mono ?_;rintro e W ⟨⟨r,rfl,hr⟩,hb⟩;have rQ:=Hq (aj HO hb);have mD:=Hq (aj HP hb);have HL2:=Hq (HL.trans (hb.mono HL.size));clear hb HO HP HL;have HO:=Hq rQ;have HP:=Hq mD;have HL:=Hq HL2;clear rQ mD HL2;cases r
 case' false=>
  exact aeP
 have az5:=Hq (hr.1 rfl);clear hr;obtain⟨c0,c1,c2,c3,c4,c5,c6,c7,c8⟩:=nine HO;obtain⟨d0,d1,d2,d3,d4,d5,d6,d7,d8⟩:=nine HP;go_wp2_with fail;clear c0 c1 c2 c3 c4 c5 c6 c7 c8 d0 d1 d2 d3 d4 d5 d6 d7 d8;refine(Zm A.s B.s A.cs B.cs n.seen m.seen _ (aEA HZ.s Aaa) (λs hs=>aEA (HZ.sk s hs) Aaa) (HA.below HL).s (HB.below HL).s).mono ?_;rintro e W ⟨⟨r,rfl,hr⟩,hb⟩;have rQ:=Hq (aj HO hb);have mD:=Hq (aj HP hb);have HL2:=Hq (HL.trans (hb.mono HL.size));clear hb HO HP HL;have HO:=Hq rQ;have HP:=Hq mD;have HL:=Hq HL2;clear rQ mD HL2;cases r
 case' false=>
  exact aeP
 have amY:=Hq (hr.1 rfl);clear hr;obtain⟨c0,c1,c2,c3,c4,c5,c6,c7,c8⟩:=nine HO;obtain⟨d0,d1,d2,d3,d4,d5,d6,d7,d8⟩:=nine HP;go_wp2_with fail;clear c0 c1 c2 c3 c4 c5 c6 c7 c8 d0 d1 d2 d3 d4 d5 d6 d7 d8;refine(adw A.r B.r A.cr B.cr n.reqs m.reqs _ (aEA HZ.r Aaa) (HA.below HL).r (HB.below HL).r).mono ?_;rintro e W ⟨⟨r,rfl,hr⟩,hb⟩;have rQ:=Hq (aj HO hb);have mD:=Hq (aj HP hb);have HL2:=Hq (HL.trans (hb.mono HL.size));clear hb HO HP HL;have HO:=Hq rQ;have HP:=Hq mD;have HL:=Hq HL2;clear rQ mD HL2;have HR:=Hq (show r=true↔n=m from⟨λh=>afH az3 ajX aaB Hold aaA Hpu az5 amY (hr.1 h),λh=>hr.2 (by rw [h])⟩);clear hr;go_wp2_with fail;go_ret;exact⟨⟨r,rfl,HR⟩,HL⟩
theorem iU.of_yes (h:iU w p e w') (hp:p):e= .returned (.bool true)/\aG w w':=by
 obtain⟨⟨r,rfl,hr⟩,hb⟩:=h;rw [hr.2 hp];exact⟨rfl,hb⟩
theorem iU.of_no (h:iU w p e w') (hp:¬p):e= .returned (.bool false)/\aG w w':=by
 obtain⟨⟨r,rfl,hr⟩,hb⟩:=h;cases r
 .exact⟨rfl,hb⟩
 .exact absurd (hr.1 rfl) hp
theorem Bf (l m:List Int) (w:World) (hl:l.length<=1048600) (ha:aK w a l) (hb:aK w b m):
 Calls prog 38 #[.slice a l.length ca,.slice b m.length cb] w (iU w (l=m)):=by
 by_cases hn:l.length=m.length
 case' neg=>
  have hd:((l.length:Int) != (m.length:Int))=true:=Aae
  have HP:=Hq (show¬l=m from λh=>hn (congrArg List.length h));clear hn ha hb;go_in
  go_wp2_with fail;go_ret;exact .no HP (aEK _ _)
 have HN:=Hq hn;have HA:=Hq ha;have HB:=Hq hb;rw [<-hn];clear ha hb hn;go_in
 go_wp2_with fail;go_loopw [5] (λi wr=>∃k:Nat,k<=l.length/\i= .int .i64 k/\aG w wr/\Hid (l.take k=m.take k)) (λi _=>l.length - (intOf i).toNat)
 case atStart=>exact⟨0,aEN _,rfl,aEK _ _,rfl⟩
 case round=>
  obtain⟨k,hk,rfl,hbel,HT⟩:=hrel;have aO:=Hq hbel;clear hbel;by_cases hlt:k < l.length
  .have hk2:k < m.length:=(ah HN)▸hlt;have HE:=Hq (λe=>nA HN hlt HT e);have HD:=Hq (λe=>Kt hlt hk2 e);obtain⟨g1,o1,rfl,hg1,s0⟩:=aK.one (GR.At.below HA aO) k hlt;obtain⟨g2,o2,rfl,hg2,t0⟩:=aK.one (GR.At.below HB aO) k hk2;generalize l[k]=x at *;generalize m[k]=y at *;clear hk2;by_cases hxy:x=y
   case' neg=>
    have hq:(x != y)=true:=by simpa using hxy
    have HP:=Hq (HD hxy);clear HD HE hxy;go_upto_region 6 with fail;go_quiet (fail);go_wp2_with fail;go_ret;exact .no HP (fu _ aO)
   subst hxy;have HT2:=Hq (HE rfl);clear HE HD;go_upto_region 6 with fail;go_quiet (fail);go_wp2_with fail;go_roundw
   case rel=>exact⟨k+1,Aaa,Aaf,fu _ aO,HT2⟩
   case measure=>simp[intOf];omega
  .have hke:k=l.length:=Aaa
   subst hke;have hnlt:decide ((l.length:Int) < (l.length:Int))=false:=Aac
   have HP:=Hq (take_same HN HT);go_wp2_with fail;go_ret;exact .yes HP aO
theorem JH (n m:Nd) (A B:bg) (w:World) (hz:eH n 1048576) (ha:bX w A n) (hb:bX w B m):
 Calls prog 36 #[gP n A,gP m B] w (iU w (n=m)):=by
 obtain⟨hA,hB,hbw⟩:=Pp w (.cells (dR n A) 53) (.cells (dR m B) 53);generalize hW:(w.alloc (.cells (dR n A) 53)).alloc (.cells (dR m B) 53)=W at *;have HA:=Hq hA;have HB:=Hq hB;have gK:=Hq hbw;have Oq:=Hq (ha.below hbw);have Tk:=Hq (hb.below hbw);have HSI:=Hq (λa b ca cb (l l2:List Int) (w:World) (hl:l.length<=1048576) ha hb=>Bf a b ca cb l l2 w Aaa ha hb);have HZ:=Hq hz;have hzp:=hz.p;have hzo:=hz.o;have hzs:=hz.s;have hzr:=hz.r;clear hA hB hbw ha hb hz;obtain⟨id,par,kids,next,pu,out,seen,old,reqs⟩:=n;obtain⟨id2,Ni,FX,AP,pu2,Cm,rz,M7,sZ⟩:=m;obtain⟨ak,ap,ao,as',ar,ck,cp,co,cs,cr⟩:=A;obtain⟨bk,bp,bo,bs,br,dk,dp,do',ds,dr⟩:=B;dsimp only at hzp hzo hzs hzr;have HD:=Hq (λh:(⟨id,par,kids,next,pu,out,seen,old,reqs⟩:Nd)=⟨id2,Ni,FX,AP,pu2,Cm,rz,M7,sZ⟩=>show id=id2/\par=Ni/\kids=FX/\next=AP/\pu=pu2/\out=Cm/\seen=rz/\old=M7/\reqs=sZ by simpa using h);have HJ:=Hq (fun(h0:id=id2) (h1:par=Ni) (h2:kids=FX) (h3:next=AP) (h4:pu=pu2) (h5:out=Cm) (h6:seen=rz) (h7:old=M7) (h8:reqs=sZ)=>show(⟨id,par,kids,next,pu,out,seen,old,reqs⟩:Nd)=⟨id2,Ni,FX,AP,pu2,Cm,rz,M7,sZ⟩ by rw [h0,h1,h2,h3,h4,h5,h6,h7,h8]);generalize ((⟨id,par,kids,next,pu,out,seen,old,reqs⟩:Nd)=⟨id2,Ni,FX,AP,pu2,Cm,rz,M7,sZ⟩)=PR at *;have HA:Hid (W.heap[w.heap.size]?=some (.cells (vG id par ak kids.length ck next ap pu.length cp ao out.length co as' seen.length cs old ar reqs.length cr) 53 (0,0))):=HA;have HB:Hid (W.heap[w.heap.size+1]?=some (.cells (vG id2 Ni bk FX.length dk AP bp pu2.length dp bo Cm.length do' bs rz.length ds M7 br sZ.length dr) 53 (0,0))):=HB;obtain⟨c0,c1,c2,c3,c4,c5,c6,c7,c8⟩:=nine HA;obtain⟨e0,e1,e2,e3,e4,e5,e6,e7,e8⟩:=nine HB;by_cases hx:id=id2
 case' neg=>
  have hq:(id != id2)=true:=Aad
  have HN:=Hq (show¬PR from λh=>hx (by have h:=ah HD h;exact h.1))
  clear hx HD HJ
  as_aux_lemma=>
   go_in
   go_upto_region 1 with fail
   clear hW
   go_wp2_with fail
   go_ret
   exact .no HN gK
 have az4:=Hq hx;have qid:(id != id2)=false:=Aak
 clear hx;by_cases hx:par=Ni
 case' neg=>
  have hq:(par != Ni)=true:=Aad
  have HN:=Hq (show¬PR from λh=>hx (by have h:=ah HD h;exact h.2.1))
  clear hx HD HJ
  as_aux_lemma=>
   go_in
   go_upto_region 1 with fail
   clear hW
   go_wp2_with fail
   go_ret
   exact .no HN gK
 have ajX:=Hq hx;have azm:(par != Ni)=false:=Aak
 clear hx;go_in
 go_upto_region 1 with fail;clear hW;go_wp2_with fail;refine(HSI ak bk ck dk kids FX W HZ.k Oq.k Tk.k).mono ?_;rintro e w1 ⟨⟨r,rfl,hr⟩,hb1⟩;have HB1:=Hq hb1;have HA1:=Hq (aj HA hb1);have Tf:=Hq (aj HB hb1);have Tg:=Hq (gK.trans (hb1.mono gK.size));clear hb1 c0 c1 c2 c3 c4 c5 c6 c7 c8 e0 e1 e2 e3 e4 e5 e6 e7 e8 HA HB gK;cases r
 case' false=>
  have HN:=Hq (show¬PR from λh=>by have h:=ah HD h;have h2:=hr.2 h.2.2.1;cases h2)
  clear hr HD HJ
  as_aux_lemma=>
   go_wp2_with fail
   go_ret
   exact .no HN Tg
 have aaA:=Hq (hr.1 rfl);clear hr;obtain⟨c0,c1,c2,c3,c4,c5,c6,c7,c8⟩:=nine HA1;obtain⟨e0,e1,e2,e3,e4,e5,e6,e7,e8⟩:=nine Tf;by_cases hx:next=AP
 case' neg=>
  have hq:(next != AP)=true:=Aad
  have HN:=Hq (show¬PR from λh=>hx (by have h:=ah HD h;exact h.2.2.2.1))
  clear hx HD HJ
  as_aux_lemma=>
   go_wp2_with fail
   go_ret
   exact .no HN Tg
 have aaB:=Hq hx;have ajr:(next != AP)=false:=Aak
 clear hx;by_cases hx:old=M7
 case' neg=>
  have hq:(old != M7)=true:=Aad
  have HN:=Hq (show¬PR from λh=>hx (by have h:=ah HD h;exact h.2.2.2.2.2.2.2.1))
  clear hx HD HJ
  as_aux_lemma=>
   go_wp2_with fail
   go_ret
   exact .no HN Tg
 have Hold:=Hq hx;have azl:(old != M7)=false:=Aak
 clear hx;by_cases hx:pu.length=pu2.length
 case' neg=>
  have hq:((pu.length:Int) != (pu2.length:Int))=true:=Aae
  have HN:=Hq (show¬PR from λh=>hx (by have h:=ah HD h;exact congrArg List.length h.2.2.2.2.1))
  clear hx HD HJ
  as_aux_lemma=>
   go_wp2_with fail
   go_ret
   exact .no HN Tg
 have Lpu:=Hq hx;have qpu:((pu.length:Int) != (pu2.length:Int))=false:=Aak
 clear hx;by_cases hx:out.length=Cm.length
 case' neg=>
  have hq:((out.length:Int) != (Cm.length:Int))=true:=Aae
  have HN:=Hq (show¬PR from λh=>hx (by have h:=ah HD h;exact congrArg List.length h.2.2.2.2.2.1))
  clear hx HD HJ
  as_aux_lemma=>
   go_wp2_with fail
   go_ret
   exact .no HN Tg
 have ajY:=Hq hx;have aCV:((out.length:Int) != (Cm.length:Int))=false:=Aak
 clear hx;by_cases hx:seen.length=rz.length
 case' neg=>
  have hq:((seen.length:Int) != (rz.length:Int))=true:=Aae
  have HN:=Hq (show¬PR from λh=>hx (by have h:=ah HD h;exact congrArg List.length h.2.2.2.2.2.2.1))
  clear hx HD HJ
  as_aux_lemma=>
   go_wp2_with fail
   go_ret
   exact .no HN Tg
 have aaE:=Hq hx;have azo:((seen.length:Int) != (rz.length:Int))=false:=Aak
 clear hx;by_cases hx:reqs.length=sZ.length
 case' neg=>
  have hq:((reqs.length:Int) != (sZ.length:Int))=true:=Aae
  have HN:=Hq (show¬PR from λh=>hx (by have h:=ah HD h;exact congrArg List.length h.2.2.2.2.2.2.2.2))
  clear hx HD HJ
  as_aux_lemma=>
   go_wp2_with fail
   go_ret
   exact .no HN Tg
 have aaD:=Hq hx;have azn:((reqs.length:Int) != (sZ.length:Int))=false:=Aak
 clear hx;go_wp2_with fail;clear qid azm ajr azl qpu aCV azo azn c0 c1 c2 c3 c4 c5 c6 c7 c8 e0 e1 e2 e3 e4 e5 e6 e7 e8;have EL:=Hq (aEK w1.heap.size w1);go_loopw [5] (λi wr=>∃k:Nat,k<=pu.length/\i= .int .i64 k/\aG w1 wr/\Hid (pu.take k=pu2.take k)) (λi _=>pu.length - (intOf i).toNat)
 case atStart=>exact⟨0,aEN _,rfl,EL,rfl⟩
 case round=>
  obtain⟨k,hk,rfl,hbel,HT⟩:=hrel;have aO:=Hq hbel;clear hbel EL;obtain⟨c0,c1,c2,c3,c4,c5,c6,c7,c8⟩:=nine (aj HA1 aO);obtain⟨e0,e1,e2,e3,e4,e5,e6,e7,e8⟩:=nine (aj Tf aO);have eG:=Hq (HB1.trans (aO.mono HB1.size));have zu:=Hq (Tg.trans (aO.mono Tg.size));by_cases hlt:k < pu.length
  .have hk2:k < pu2.length:=(ah Lpu)▸hlt;have HE:=Hq (λe=>nA Lpu hlt HT e);have HN:=Hq (show pu[k]≠pu2[k]->¬PR from λe h=>Kt hlt hk2 e (by have h:=ah HD h;exact h.2.2.2.2.1));obtain⟨g1,o1,rfl,hg1,s0,s1,s2,s3⟩:=aH.four (GR.At.below Oq.p eG) k hlt;obtain⟨g2,o2,rfl,hg2,t0,t1,t2,t3⟩:=aH.four (GR.At.below Tk.p eG) k hk2;generalize pu[k]=x at *;generalize pu2[k]=y at *;obtain⟨x0,x1,x2,x3⟩:=x;obtain⟨y0,y1,y2,y3⟩:=y;dsimp only at s0 s1 s2 s3 t0 t1 t2 t3;by_cases hx:x0=y0
   case' neg=>
    have hq:(x0.toList == y0.toList)=false:=CK hx
    have hr:¬x0.toList=y0.toList:=Abe
    have HP:=Hq (HN Aak)
    clear HN HE HD HJ hx
    as_aux_lemma=>
     go_upto_region 6 with fail
     go_quiet (fail)
     go_wp2_with fail
     go_ret
     exact .no HP (fu _ zu)
   subst hx;by_cases hx:x1=y1
   case' neg=>
    have hq:(x1 == y1)=false:=Aad
    have HP:=Hq (HN Aak)
    clear HN HE HD HJ
    as_aux_lemma=>
     go_upto_region 6 with fail
     go_quiet (fail)
     go_wp2_with fail
     go_ret
     exact .no HP (fu _ zu)
   subst hx;by_cases hx:x2=y2
   case' neg=>
    have hq:(x2 == y2)=false:=Aad
    have HP:=Hq (HN Aak)
    clear HN HE HD HJ
    as_aux_lemma=>
     go_upto_region 6 with fail
     go_quiet (fail)
     go_wp2_with fail
     go_ret
     exact .no HP (fu _ zu)
   subst hx;by_cases hx:x3=y3
   case' neg=>
    have hq:(x3 == y3)=false:=Aad
    have HP:=Hq (HN Aak)
    clear HN HE HD HJ
    as_aux_lemma=>
     go_upto_region 6 with fail
     go_quiet (fail)
     go_wp2_with fail
     go_ret
     exact .no HP (fu _ zu)
   subst hx;have HT2:=Hq (HE rfl);clear HE HN eG zu;go_upto_region 6 with fail;go_quiet (fail);go_wp2_with fail;go_roundw
   case rel=>exact⟨k+1,Aaa,Aaf,fu _ aO,HT2⟩
   case measure=>simp[intOf];omega
  .have hke:k=pu.length:=Aaa
   subst hke;have hnlt:decide ((pu.length:Int) < (pu.length:Int))=false:=Aac
   have Epu:=Hq (take_same Lpu HT);have zC:=aO;clear aO HT eG zu;go_wp2_with fail;clear c0 c1 c2 c3 c4 c5 c6 c7 c8 e0 e1 e2 e3 e4 e5 e6 e7 e8;go_loopw [6] (λi wr=>∃k:Nat,k<=out.length/\i= .int .i64 k/\aG w1 wr/\Hid (out.take k=Cm.take k)) (λi _=>out.length - (intOf i).toNat)
   case atStart=>exact⟨0,aEN _,rfl,zC,rfl⟩
   case round=>
    obtain⟨k,hk,rfl,hbel,HT⟩:=hrel;have aO:=Hq hbel;clear hbel zC;obtain⟨c0,c1,c2,c3,c4,c5,c6,c7,c8⟩:=nine (aj HA1 aO);obtain⟨e0,e1,e2,e3,e4,e5,e6,e7,e8⟩:=nine (aj Tf aO);have eG:=Hq (HB1.trans (aO.mono HB1.size));have zu:=Hq (Tg.trans (aO.mono Tg.size));by_cases hlt:k < out.length
    .have hk2:k < Cm.length:=(ah ajY)▸hlt;have HE:=Hq (λe=>nA ajY hlt HT e);have HN:=Hq (show out[k]≠Cm[k]->¬PR from λe h=>Kt hlt hk2 e (by have h:=ah HD h;exact h.2.2.2.2.2.1));obtain⟨g1,o1,rfl,hg1,s0,s1,s2,s3⟩:=SentAt.four (GR.At.below Oq.o eG) k hlt;obtain⟨g2,o2,rfl,hg2,t0,t1,t2,t3⟩:=SentAt.four (GR.At.below Tk.o eG) k hk2;generalize out[k]=x at *;generalize Cm[k]=y at *;obtain⟨x0,x1,x2,x3⟩:=x;obtain⟨y0,y1,y2,y3⟩:=y;dsimp only at s0 s1 s2 s3 t0 t1 t2 t3;by_cases hx:x0=y0
     case' neg=>
      have hq:(x0 == y0)=false:=Aad
      have HP:=Hq (HN Aak)
      clear HN HE HD HJ
      as_aux_lemma=>
       go_upto_region 11 with fail
       go_quiet (fail)
       go_wp2_with fail
       go_ret
       exact .no HP (fu _ zu)
     subst hx;by_cases hx:x1=y1
     case' neg=>
      have hq:(x1 == y1)=false:=Aad
      have HP:=Hq (HN Aak)
      clear HN HE HD HJ
      as_aux_lemma=>
       go_upto_region 11 with fail
       go_quiet (fail)
       go_wp2_with fail
       go_ret
       exact .no HP (fu _ zu)
     subst hx;by_cases hx:x2=y2
     case' neg=>
      have hq:(x2.toList == y2.toList)=false:=CK hx
      have hr:¬x2.toList=y2.toList:=Abe
      have HP:=Hq (HN Aak)
      clear HN HE HD HJ hx
      as_aux_lemma=>
       go_upto_region 11 with fail
       go_quiet (fail)
       go_wp2_with fail
       go_ret
       exact .no HP (fu _ zu)
     subst hx;by_cases hx:x3=y3
     case' neg=>
      have hq:(x3 == y3)=false:=Aad
      have HP:=Hq (HN Aak)
      clear HN HE HD HJ
      as_aux_lemma=>
       go_upto_region 11 with fail
       go_quiet (fail)
       go_wp2_with fail
       go_ret
       exact .no HP (fu _ zu)
     subst hx;have HT2:=Hq (HE rfl);clear HE HN eG zu;go_upto_region 11 with fail;go_quiet (fail);go_wp2_with fail;go_roundw
     case rel=>exact⟨k+1,Aaa,Aaf,fu _ aO,HT2⟩
     case measure=>simp[intOf];omega
    .have hke:k=out.length:=Aaa
     subst hke;have hnlt:decide ((out.length:Int) < (out.length:Int))=false:=Aac
     have azD:=Hq (take_same ajY HT);have HS2:=aO;clear aO HT eG zu;go_wp2_with fail;clear c0 c1 c2 c3 c4 c5 c6 c7 c8 e0 e1 e2 e3 e4 e5 e6 e7 e8;go_loopw [7] (λi wr=>∃k:Nat,k<=seen.length/\i= .int .i64 k/\aG w1 wr/\Hid (seen.take k=rz.take k)) (λi _=>seen.length - (intOf i).toNat)
     case atStart=>exact⟨0,aEN _,rfl,HS2,rfl⟩
     case round=>
      obtain⟨k,hk,rfl,hbel,HT⟩:=hrel;have aO:=Hq hbel;clear hbel HS2;obtain⟨c0,c1,c2,c3,c4,c5,c6,c7,c8⟩:=nine (aj HA1 aO);obtain⟨e0,e1,e2,e3,e4,e5,e6,e7,e8⟩:=nine (aj Tf aO);have eG:=Hq (HB1.trans (aO.mono HB1.size));have zu:=Hq (Tg.trans (aO.mono Tg.size));by_cases hlt:k < seen.length
      .have hk2:k < rz.length:=(ah aaE)▸hlt;have HE:=Hq (λe=>nA aaE hlt HT e);have HN:=Hq (show seen[k]≠rz[k]->¬PR from λe h=>Kt hlt hk2 e (by have h:=ah HD h;exact h.2.2.2.2.2.2.1));obtain⟨g1,o1,b1,d1,rfl,hg1,s0,s1,s2,s3⟩:=Oq.s.below eG k hlt;obtain⟨g2,o2,b2,d2,rfl,hg2,t0,t1,t2,t3⟩:=Tk.s.below eG k hk2;have hln:=HZ.sk seen[k] (aEL hlt);have HPC:=Hq (λd os=>HSI b1 b2 d1 d2 seen[k].ids rz[k].ids (Sort.grow (redrawn wr d) os) hln (GR.At.below s3 (aEV wr d os)) (GR.At.below t3 (aEV wr d os)));clear s3 t3 hln;generalize seen[k]=x at *;generalize rz[k]=y at *;obtain⟨xf,xl,xs⟩:=x;obtain⟨yf,yl,ys⟩:=y;dsimp only at s0 s1 s2 t0 t1 t2;have y0:=aEv c6;have y1:=aEv e6;have y2:=aEv s0;have y3:=aEv s1;have y4:=aEv s2;have y5:=aEv t0;have y6:=aEv t1;have y7:=aEv t2;by_cases hx:xf=yf
       case' neg=>
        have hq:(xf != yf)=true:=Aad
        have HP:=Hq (HN Aak)
        clear HN HE HD HJ HPC
        as_aux_lemma=>
         go_upto_region 16 with fail
         refine aEJ Aab Aab ?_
         repeat (first|go_big_quiet_step (first|fail)|quiet_step (first|fail))
         refine aE2 ?_
         intro _ hw'
         obtain⟨⟨dq,osq⟩,hw''⟩:=hw'
         subst hw''
         go_wp2_with fail
         go_ret
         exact .no HP (zu.trans ((aEV wr dq osq).mono zu.size))
       subst hx;by_cases hx:xl=yl
       case' neg=>
        have hq:(xl != yl)=true:=Aad
        have HP:=Hq (HN Aak)
        clear HN HE HD HJ HPC
        as_aux_lemma=>
         go_upto_region 16 with fail
         refine aEJ Aab Aab ?_
         repeat (first|go_big_quiet_step (first|fail)|quiet_step (first|fail))
         refine aE2 ?_
         intro _ hw'
         obtain⟨⟨dq,osq⟩,hw''⟩:=hw'
         subst hw''
         go_wp2_with fail
         go_ret
         exact .no HP (zu.trans ((aEV wr dq osq).mono zu.size))
       subst hx;by_cases hx:xs=ys
       case' neg=>
        have p0:∀d os,Calls prog 38 #[.slice b1 xs.length d1,.slice b2 ys.length d2] (Sort.grow (redrawn wr d) os) λe w''=>e= .returned (.bool false)/\∃p:Regrown,w''=Sort.grow (redrawn wr p.d) p.os:=λd os=>aE1 ((HPC d os).mono λ_ _ h=>h.of_no hx)
        have HP:=Hq (HN Aak)
        clear HN HE HD HJ HPC hx
        as_aux_lemma=>
         go_upto_region 16 with fail
         refine aEJ Aab Aab ?_
         repeat (first|go_big_quiet_step (first|(go_at_call 38;exact p0 _ _))|quiet_step (first|(go_at_call 38;exact p0 _ _)))
         refine aE2 ?_
         intro _ hw'
         obtain⟨⟨dq,osq⟩,hw''⟩:=hw'
         subst hw''
         clear p0
         go_wp2_with fail
         go_ret
         exact .no HP (zu.trans ((aEV wr dq osq).mono zu.size))
       have p0:∀d os,Calls prog 38 #[.slice b1 xs.length d1,.slice b2 ys.length d2] (Sort.grow (redrawn wr d) os) λe w''=>e= .returned (.bool true)/\∃p:Regrown,w''=Sort.grow (redrawn wr p.d) p.os:=λd os=>aE1 ((HPC d os).mono λ_ _ h=>h.of_yes hx)
       have HT2:=Hq (HE (by rw [hx]));clear HE HN eG zu HPC hx;go_upto_region 16 with fail;refine aEJ Aab Aab ?_;repeat (first|go_big_quiet_step (first|(go_at_call 38;exact p0 _ _))|quiet_step (first|(go_at_call 38;exact p0 _ _)))
       refine aE2 ?_;intro _ hw';obtain⟨⟨dq,osq⟩,hw''⟩:=hw';subst hw'';have eO:=Hq (aO.trans ((aEV wr dq osq).mono aO.size));clear p0;go_wp2_with fail;go_roundw
       case rel=>exact⟨k+1,Aaa,Aaf,eO,HT2⟩
       case measure=>simp[intOf];omega
      .have hke:k=seen.length:=Aaa
       subst hke;have hnlt:decide ((seen.length:Int) < (seen.length:Int))=false:=Aac
       have al8:=Hq (take_same aaE HT);have zD:=aO;clear aO HT eG zu;go_wp2_with fail;clear c0 c1 c2 c3 c4 c5 c6 c7 c8 e0 e1 e2 e3 e4 e5 e6 e7 e8;go_loopw [8] (λi wr=>∃k:Nat,k<=reqs.length/\i= .int .i64 k/\aG w1 wr/\Hid (reqs.take k=sZ.take k)) (λi _=>reqs.length - (intOf i).toNat)
       case atStart=>exact⟨0,aEN _,rfl,zD,rfl⟩
       case round=>
        obtain⟨k,hk,rfl,hbel,HT⟩:=hrel;have aO:=Hq hbel;clear hbel zD;obtain⟨c0,c1,c2,c3,c4,c5,c6,c7,c8⟩:=nine (aj HA1 aO);obtain⟨e0,e1,e2,e3,e4,e5,e6,e7,e8⟩:=nine (aj Tf aO);have eG:=Hq (HB1.trans (aO.mono HB1.size));have zu:=Hq (Tg.trans (aO.mono Tg.size));by_cases hlt:k < reqs.length
        .have hk2:k < sZ.length:=(ah aaD)▸hlt;have HE:=Hq (λe=>nA aaD hlt HT e);have HN:=Hq (show reqs[k]≠sZ[k]->¬PR from λe h=>Kt hlt hk2 e (by have h:=ah HD h;exact h.2.2.2.2.2.2.2.2));obtain⟨g1,o1,rfl,hg1,s0,s1,s2,s3⟩:=fJ.four (GR.At.below Oq.r eG) k hlt;obtain⟨g2,o2,rfl,hg2,t0,t1,t2,t3⟩:=fJ.four (GR.At.below Tk.r eG) k hk2;generalize reqs[k]=x at *;generalize sZ[k]=y at *;obtain⟨x0,x1,x2,x3⟩:=x;obtain⟨y0,y1,y2,y3⟩:=y;dsimp only at s0 s1 s2 s3 t0 t1 t2 t3;by_cases hx:x0=y0
         case' neg=>
          have hq:(x0 == y0)=false:=Aad
          have HP:=Hq (HN Aak)
          clear HN HE HD HJ
          as_aux_lemma=>
           go_upto_region 21 with fail
           go_quiet (fail)
           go_wp2_with fail
           go_ret
           exact .no HP (fu _ zu)
         subst hx;by_cases hx:x1=y1
         case' neg=>
          have hq:(x1.toList == y1.toList)=false:=CK hx
          have hr:¬x1.toList=y1.toList:=Abe
          have HP:=Hq (HN Aak)
          clear HN HE HD HJ hx
          as_aux_lemma=>
           go_upto_region 21 with fail
           go_quiet (fail)
           go_wp2_with fail
           go_ret
           exact .no HP (fu _ zu)
         subst hx;by_cases hx:x2=y2
         case' neg=>
          have hq:(x2 == y2)=false:=Aad
          have HP:=Hq (HN Aak)
          clear HN HE HD HJ
          as_aux_lemma=>
           go_upto_region 21 with fail
           go_quiet (fail)
           go_wp2_with fail
           go_ret
           exact .no HP (fu _ zu)
         subst hx;by_cases hx:x3=y3
         case' neg=>
          have hq:(x3 == y3)=false:=Aad
          have HP:=Hq (HN Aak)
          clear HN HE HD HJ
          as_aux_lemma=>
           go_upto_region 21 with fail
           go_quiet (fail)
           go_wp2_with fail
           go_ret
           exact .no HP (fu _ zu)
         subst hx;have HT2:=Hq (HE rfl);clear HE HN eG zu;go_upto_region 21 with fail;go_quiet (fail);go_wp2_with fail;go_roundw
         case rel=>exact⟨k+1,Aaa,Aaf,fu _ aO,HT2⟩
         case measure=>simp[intOf];omega
        .have hke:k=reqs.length:=Aaa
         subst hke;have hnlt:decide ((reqs.length:Int) < (reqs.length:Int))=false:=Aac
         have al7:=Hq (take_same aaD HT);have HP:=Hq (HJ az4 ajX aaA aaB Epu azD al8 Hold al7);go_wp2_with fail;go_ret;exact .yes HP zu
end Go.Proofs.YtfachhcijcjbpaaGreatDoor
